import PyProof.Rows.All
import Wide.All
import OpenK.AllK
import Wide.FinOn
import PyProof.EqAt
import PyProof.EqKinds
import PyProof.TupleCall
import KE.BitLaws
import KE.OsGo
import Open.SpecLaws
import PySem.Challenge.RW_shownback_s10_untable
theorem bg {p : Prop} (h : ∀ G : Prop, (p → G) → G) : p := h p id
set_option Elab.async false
set_option linter.all false
set_option maxRecDepth 100000
namespace L2
open PySem PySem.Spec PyProof.Rows

abbrev Key := Sum Int Str
def keyIs : Key → Value → Bool
  | .inl k, v => Value.isInt k v
  | .inr x, v => Value.isStrOf x v
def keyH (w : World) : Key → Int
  | .inl k => hashInt k
  | .inr x => hashStr w x
theorem keyIs_shape : ∀ {k : Key} {v : Value}, keyIs k v = true → (∃ i t, k = Sum.inl i ∧ v = Value.int i t) ∨ (∃ x t, k = Sum.inr x ∧ v = Value.str x t)
  | .inl i, v, h => by
    obtain ⟨t, e⟩ := Value.isInt_shape (k := i) (v := v) h
    exact .inl ⟨i, t, rfl, e⟩
  | .inr x, v, h => by
    obtain ⟨t, e⟩ := Value.isStrOf_shape (x := x) (v := v) h
    exact .inr ⟨x, t, rfl, e⟩
theorem key_ll (a b : Int) : decide ((Sum.inl a : Key) = Sum.inl b) = (a == b) := by
  by_cases e : a = b
  · subst e; simp
  · have h : ¬ (Sum.inl a : Key) = Sum.inl b := fun q => e (Sum.inl.inj q)
    rw [decide_eq_false h]
    exact (beq_eq_false_iff_ne.mpr e).symm
theorem key_rr (a b : Str) : decide ((Sum.inr a : Key) = Sum.inr b) = decide (a = b) := by
  by_cases e : a = b
  · subst e; simp
  · have h : ¬ (Sum.inr a : Key) = Sum.inr b := fun q => e (Sum.inr.inj q)
    rw [decide_eq_false h, decide_eq_false e]
theorem key_lr (a : Int) (b : Str) : decide ((Sum.inl a : Key) = Sum.inr b) = false := decide_eq_false (fun q => nomatch q)
theorem key_rl (a : Str) (b : Int) : decide ((Sum.inr a : Key) = Sum.inl b) = false := decide_eq_false (fun q => nomatch q)

def mixKind (prog : Program) (w : World) : PySem.KeyKind prog w Key where
  is := keyIs
  hash := keyH w
  inj := fun v a b ha hb => by
    rcases keyIs_shape ha with ⟨i, t, rfl, rfl⟩ | ⟨x, t, rfl, rfl⟩
    · rcases keyIs_shape hb with ⟨j, u, rfl, e⟩ | ⟨y, u, rfl, e⟩
      · injection e with e1 _; rw [e1]
      · exact nomatch e
    · rcases keyIs_shape hb with ⟨j, u, rfl, e⟩ | ⟨y, u, rfl, e⟩
      · exact nomatch e
      · injection e with e1 _; rw [e1]
  byValue := fun k v h => by
    rcases keyIs_shape h with ⟨i, t, rfl, rfl⟩ | ⟨x, t, rfl, rfl⟩ <;> rfl
  pyHash := fun hv h => by
    rcases keyIs_shape hv with ⟨i, t, rfl, rfl⟩ | ⟨x, t, rfl, rfl⟩
    · exact wpAny_pyHash_int h
    · exact wpAny_pyHash_str h
  eqBool := fun hu hv h => by
    rcases keyIs_shape hu with ⟨i, t, rfl, rfl⟩ | ⟨x, t, rfl, rfl⟩
    · rcases keyIs_shape hv with ⟨j, u, rfl, rfl⟩ | ⟨y, u, rfl, rfl⟩
      · rw [key_ll] at h; exact wpAny_eqBool_int h
      · rw [key_lr] at h; exact SeqAt.EqAt.int_str i t y u _ _ _ _ h
    · rcases keyIs_shape hv with ⟨j, u, rfl, rfl⟩ | ⟨y, u, rfl, rfl⟩
      · rw [key_rl] at h; exact SeqAt.EqAt.str_int x t j u _ _ _ _ h
      · rw [key_rr] at h; exact wpAny_eqBool_str h
  «strs» := fun k x t v h => by
    rcases keyIs_shape h with ⟨i, u, rfl, e⟩ | ⟨y, u, rfl, e⟩
    · exact nomatch e
    · injection e with e1 _
      subst e1
      cases v <;> rfl

end L2

namespace L2
open PySem PySem.Spec PyProof.Rows

inductive V where
  | non | bl (b : Bool) | int (i : Int) | str (x : Str) | byt (b : Array UInt8) | flt (b : UInt64) | ref (a : Addr) | ty (n : String)
  deriving DecidableEq

def RelV : V → Value → Prop
  | .non, u => u = Value.none
  | .bl b, u => u = Value.bool b
  | .int i, u => ∃ t, u = Value.int i t
  | .str x, u => ∃ t, u = Value.str x t
  | .byt b, u => ∃ t, u = Value.bytes b t
  | .flt b, u => ∃ t, u = Value.float b t
  | .ref a, u => u = Value.ref a
  | .ty n, u => u = Value.type n

abbrev Vals : List V → List Value → Prop := Paired RelV
theorem Vals.length {xs : List V} {us : List Value} (r : Vals xs us) : xs.length = us.length := Paired.length r
theorem Vals.get : ∀ {xs : List V} {us : List Value} {i : Nat} {x : V}, Vals xs us → xs[i]? = some x → ∃ u, us[i]? = some u ∧ RelV x u
  | _, _, _, _, .nil, e => by simp at e
  | _, _, 0, _, .cons r _, e => by simp at e; subst e; exact ⟨_, rfl, r⟩
  | _, _, i + 1, x, .cons _ t, e => by
    refine bg fun G' g' => ?_
    obtain ⟨u, h1, h2⟩ := Vals.get (i := i) (x := x) t (by simpa using e)
    refine g' ?_
    clear g' G'
    exact ⟨u, by simpa using h1, h2⟩
theorem Vals.append {xs ys : List V} {us ws : List Value} (h : Vals xs us) (s : Vals ys ws) : Vals (xs ++ ys) (us ++ ws) := by
  induction h with
  | nil => exact s
  | cons r t ih => exact .cons r ih
theorem Vals.take : ∀ {xs : List V} {us : List Value} (n : Nat), Vals xs us → Vals (xs.take n) (us.take n)
  | _, _, 0, _ => .nil
  | _, _, _ + 1, .nil => .nil
  | _, _, n + 1, .cons r t => .cons r (Vals.take n t)
theorem Vals.drop : ∀ {xs : List V} {us : List Value} (n : Nat), Vals xs us → Vals (xs.drop n) (us.drop n)
  | _, _, 0, r => r
  | _, _, _ + 1, .nil => .nil
  | _, _, n + 1, .cons _ t => Vals.drop n t

def RelO : Option V → Option Value → Prop
  | some v, some u => RelV v u
  | none, none => True
  | _, _ => False
def KV {κ : Type} : List (κ × V) → List (κ × Value) → Prop := Paired fun (p : κ × V) (q : κ × Value) => p.1 = q.1 ∧ RelV p.2 q.2

def kV : Key → V
  | .inl i => .int i
  | .inr x => .str x

inductive HO where
    | lst (xs : List V)
    | tup (xs : List V)
    | dK (kvs : List (Key × V)) | dT (kvs : List (List Key × V))
    | set (S : Int → Bool) (n : Nat)
    | ins (C dx : Addr) (fs : List (Str × V))
    | own (x : Addr)
    | xd (fs : List (Str × V))
    | met (f x : Addr)
    | rng (lo hi : Int)
    | frz (o : Obj) (u : HO)
    | tbl (ps : Array Value)
    | ext (φ : Heap → Prop)

abbrev Hp := Addr → Option HO
def upd (H : Hp) (a : Addr) (o : HO) : Hp := fun b => if b = a then some o else H b
theorem upd_same {H : Hp} {a : Addr} {o : HO} : upd H a o a = some o := by unfold upd; rw [if_pos rfl]
theorem upd_ne {H : Hp} {a b : Addr} {o : HO} (h : b ≠ a) : upd H a o b = H b := by unfold upd; rw [if_neg h]
theorem upd_upd {H : Hp} {a : Addr} {o u : HO} : upd (upd H a o) a u = upd H a u := by
  funext b; unfold upd; split <;> rfl
theorem ne_of {H : Hp} {a b : Addr} {o u : HO} (h : H a = some o) (h' : H b = some u) (d : o ≠ u) : a ≠ b := by
  intro e; subst e; rw [h] at h'; exact d (Option.some.inj h')
theorem ne_of_none {H : Hp} {a b : Addr} {o : HO} (h : H a = some o) (h' : H b = none) : a ≠ b := by
  intro e; subst e; rw [h] at h'; cases h'

section
variable (P : Program) (w : World)
def ObjOk (H : Hp) (h : Heap) (a : Addr) : HO → Prop
  | .lst xs => xs.length ≤ sizeLine ∧ ∃ (its : List Value) (n : Nat), Vals xs its ∧ h.get? a = some { cls := .type "list", data := .seq its.toArray n }
  | .tup xs => xs.length ≤ sizeLine ∧ ∃ its : List Value, Vals xs its ∧ IsTup h a its.toArray
  | .dK kvs => kvs.length ≤ sizeLine ∧ (a == sysModules) = false ∧ ∃ vs, KV kvs vs ∧ h.DictOf (mixKind P w) a vs
  | .dT kvs => kvs.length ≤ sizeLine ∧ (a == sysModules) = false ∧ ∃ xs : List (List Key × Addr × Value),
      Paired (fun (p : List Key × V) (q : List Key × Addr × Value) => p.1 = q.1 ∧ H q.2.1 = some (.tup (p.1.map kV)) ∧ RelV p.2 q.2.2) kvs xs ∧
      ∃ o es ep, h.get? a = some o ∧ o.ExactDict ∧ o.data = .dict es ep ∧ es.toList = xs.map (entryOfKey (tupleKind (mixKind P w))) ∧ (xs.map (·.1)).Nodup
  | .set S n => h.SetOf (intKind P w) a S n
  | .ins C dx fs => H dx = some (.own a) ∧ fs.length ≤ 1000 ∧ dx ≠ a ∧ h.get? a = some (PySem.W.instObj C dx) ∧
      ∃ mA, h.Ns1 dx mA ∧ (∀ f, RelO (fs.lookup f) (mA f)) ∧ PySem.Within mA (fs.map (·.1))
  | .own _ => ∃ o, h.get? a = some o
  | .xd fs => ∃ mA, h.Ns1 a mA ∧ ∀ f, RelO (fs.lookup f) (mA f)
  | .rng lo hi => ∃ t u v, h.get? a = some { cls := .type "range", data := .fields #[.int lo t, .int hi u, .int 1 v] }
  | .frz o u => h.get? a = some o ∧ ObjOk H h a u
  | .tbl ps => h.get? a = some { cls := .none, data := .fields ps }
  | .met f x => h.get? a = some (PySem.W.methodObj (.ref f) (.ref x))
  | .ext φ => φ h ∧ (∃ o, h.get? a = some o) ∧ ∀ h1 h2 : Heap, φ h1 → (∀ o, h1.get? a = some o → h2.get? a = some o) → φ h2
def HOk (H : Hp) (h : Heap) : Prop := ∀ a o, H a = some o → ObjOk P w H h a o
end

section
variable {P : Program} {w : World} {H H' : Hp} {h h' : Heap} {a : Addr} {o : HO}
theorem ObjOk.lt (x : ObjOk P w H h a o) : a < h.objs.size := by
  cases o with
  | lst xs => obtain ⟨_, _, _, _, e⟩ := x; exact Heap.lt_size e
  | tup xs => obtain ⟨_, _, _, p⟩ := x; exact p.lt
  | dK kvs => obtain ⟨_, _, _, _, o, _, _, e, _⟩ := x; exact Heap.lt_size e
  | dT kvs => obtain ⟨_, _, _, _, o, _, _, e, _⟩ := x; exact Heap.lt_size e
  | set S n => obtain ⟨o, _, _, _, e, _⟩ := x; exact Heap.lt_size e
  | ins C dx fs => obtain ⟨_, _, _, e, _⟩ := x; exact Heap.lt_size e
  | own y => obtain ⟨_, e⟩ := x; exact Heap.lt_size e
  | xd fs => obtain ⟨_, ⟨_, _, _, e, _⟩, _⟩ := x; exact Heap.lt_size e
  | rng lo hi => obtain ⟨_, _, _, e⟩ := x; exact Heap.lt_size e
  | frz ob u => obtain ⟨e, _⟩ := x; exact Heap.lt_size e
  | tbl ps => exact Heap.lt_size (show h.get? a = some _ from x)
  | met f y => exact Heap.lt_size (show h.get? a = some _ from x)
  | ext φ => obtain ⟨_, ⟨_, e⟩, _⟩ := x; exact Heap.lt_size e
theorem Paired.mapP {α β : Type} {F G : α → β → Prop} {l₁ : List α} {l₂ : List β} (h : Paired F l₁ l₂) (f : ∀ a b, F a b → G a b) : Paired G l₁ l₂ := by
  induction h with
  | nil => exact .nil
  | cons r t ih => exact .cons (f _ _ r) ih
theorem ObjOk.stay (x : ObjOk P w H h a o) (k : ∀ b u, (b = a ∨ H b = some (.own a)) → h.get? b = some u → h'.get? b = some u)
    (ho : ∀ b, H b = some (.own a) → H' b = some (.own a)) (ht : ∀ b xs, H b = some (.tup xs) → H' b = some (.tup xs)) : ObjOk P w H' h' a o := by
  induction o with
  | lst xs => obtain ⟨z, its, n, r, e⟩ := x; exact ⟨z, its, n, r, k _ _ (.inl rfl) e⟩
  | tup xs => obtain ⟨z, its, r, ob, e, c⟩ := x; exact ⟨z, its, r, ob, k _ _ (.inl rfl) e, c⟩
  | dK kvs => obtain ⟨z, y, vs, r, ob, es, ep, e, c⟩ := x; exact ⟨z, y, vs, r, ob, es, ep, k _ _ (.inl rfl) e, c⟩
  | dT kvs =>
    refine bg fun G' g' => ?_
    obtain ⟨z, y, xs, r, ob, es, ep, e, c⟩ := x
    refine g' ?_
    clear g' G'
    exact ⟨z, y, xs, Paired.mapP r fun p q z => ⟨z.1, ht _ _ z.2.1, z.2.2⟩, ob, es, ep, k _ _ (.inl rfl) e, c⟩
  | set S n => obtain ⟨ob, es, ep, t, e, c⟩ := x; exact ⟨ob, es, ep, t, k _ _ (.inl rfl) e, c⟩
  | ins C dx fs =>
    refine bg fun G' g' => ?_
    obtain ⟨d, z, ne, e, mA, ⟨od, es, ep, e2, c⟩, r⟩ := x
    refine g' ?_
    clear g' G'
    exact ⟨ho _ d, z, ne, k _ _ (.inl rfl) e, mA, ⟨od, es, ep, k _ _ (.inr d) e2, c⟩, r⟩
  | own y => obtain ⟨ob, e⟩ := x; exact ⟨ob, k _ _ (.inl rfl) e⟩
  | xd fs => obtain ⟨mA, ⟨od, es, ep, e, c⟩, r⟩ := x; exact ⟨mA, ⟨od, es, ep, k _ _ (.inl rfl) e, c⟩, r⟩
  | rng lo hi => obtain ⟨t, u, v, e⟩ := x; exact ⟨t, u, v, k _ _ (.inl rfl) e⟩
  | frz ob u ih => obtain ⟨e, q⟩ := x; exact ⟨k _ _ (.inl rfl) e, ih q⟩
  | tbl ps =>
    have e : h.get? a = some { cls := .none, data := .fields ps } := x
    show h'.get? a = some { cls := .none, data := .fields ps }
    exact k a _ (.inl rfl) e
  | met f y =>
    have e : h.get? a = some (PySem.W.methodObj (.ref f) (.ref y)) := x
    show h'.get? a = some (PySem.W.methodObj (.ref f) (.ref y))
    exact k a _ (.inl rfl) e
  | ext φ => obtain ⟨p, ⟨o, e⟩, st⟩ := x; exact ⟨st _ _ p fun o q => k _ _ (.inl rfl) q, ⟨o, k _ _ (.inl rfl) e⟩, st⟩
theorem HOk.lt (x : HOk P w H h) (e : H a = some o) : a < h.objs.size := (x a o e).lt
theorem HOk.fresh (x : HOk P w H h) (e : h.objs.size ≤ a) : H a = none := by
  cases q : H a with
  | none => rfl
  | some u => exact absurd (Nat.lt_of_lt_of_le (x.lt q) e) (Nat.lt_irrefl _)
theorem HOk.kept (x : HOk P w H h) (k : ∀ b u, h.get? b = some u → h'.get? b = some u) : HOk P w H h' := fun a o e =>
  (x a o e).stay (fun b u _ q => k b u q) (fun _ q => q) fun _ _ q => q
theorem HOk.laid (x : HOk P w H h) (k : ∀ b u, h.get? b = some u → h'.get? b = some u) (hp : h.objs.size ≤ a) (new : ObjOk P w (upd H a o) h' a o) : HOk P w (upd H a o) h' := fun b u e => by
  have hn := x.fresh hp
  by_cases hb : b = a
  · subst hb; rw [upd_same] at e; cases e; exact new
  · rw [upd_ne hb] at e
    exact (x b u e).stay (fun c v _ q => k c v q) (fun c q => by rw [upd_ne (ne_of_none q hn)]; exact q) fun c xs q => by rw [upd_ne (ne_of_none q hn)]; exact q
end

def Rd (H : Hp) (a : Addr) (u : HO) : Prop := H a = some u ∨ ∃ o, H a = some (.frz o u)
theorem Rd.ok {P : Program} {w : World} {H : Hp} {h : Heap} {a : Addr} {u : HO} (r : Rd H a u) (x : HOk P w H h) : ObjOk P w H h a u := by
  rcases r with r | ⟨o, r⟩
  · exact x a u r
  · obtain ⟨_, q⟩ := x a _ r
    exact q
def Mut : Option HO → Prop
  | some (.lst _) => True
  | some (.dK _) => True
  | some (.dT _) => True
  | some (.set _ _) => True
  | some (.ins _ _ _) => True
  | some (.ext _) => True
  | _ => False
section
variable {P : Program} {w : World} {H : Hp} {h h' : Heap} {x e : Addr} {o' : HO}
theorem HOk.write (ok : HOk P w H h) (mu : Mut (H x)) (he : e = x ∨ H e = some (.own x)) (k : ∀ b u, b ≠ e → h.get? b = some u → h'.get? b = some u) (heo : ∃ u, h'.get? e = some u)
    (new : ObjOk P w (upd H x o') h' x o') : HOk P w (upd H x o') h' := fun b u q => by
  have nown : ∀ c y, H c = some (.own y) → c ≠ x := fun c y r z => by subst z; rw [r] at mu; exact mu
  have ntup : ∀ c xs, H c = some (.tup xs) → c ≠ x := fun c xs r z => by subst z; rw [r] at mu; exact mu
  by_cases hb : b = x
  · subst hb; rw [upd_same] at q; cases q; exact new
  · rw [upd_ne hb] at q
    by_cases hbe : b = e
    · have q' : H b = some (.own x) := by
        rcases he with z | z
        · exact absurd (hbe.trans z) hb
        · rw [hbe]; exact z
      rw [q] at q'; cases q'
      obtain ⟨v, hv⟩ := heo
      exact ⟨v, by rw [hbe]; exact hv⟩
    · refine (ok b u q).stay (fun c v hc r => k c v ?_ r) (fun c r => by rw [upd_ne (nown c b r)]; exact r) fun c xs r => by rw [upd_ne (ntup c xs r)]; exact r
      rcases hc with rfl | hc
      · exact hbe
      · rintro rfl
        rcases he with z | z
        · exact nown c b hc z
        · rw [hc] at z; cases z; exact hb rfl
end

structure Un (fs ex : List Addr) (H H' : Hp) (h h' : Heap) : Prop where
  keep : ∀ b o, h.get? b = some o → H b = none → b ∉ fs → b ∉ ex → h'.get? b = some o
  slot : ∀ b o, h.get? b = some o → H b = none → b ∈ fs → b ∉ ex → ∃ sl, h'.get? b = some { o with slots := sl }
  free : ∀ b o, h.get? b = some o → H b = none → b ∉ ex → H' b = none
  there : ∀ b o, h.get? b = some o → b ∉ ex → ∃ o', h'.get? b = some o'
  tups : ∀ b xs, H b = some (.tup xs) → H' b = some (.tup xs)
  frzs : ∀ b o u, H b = some (.frz o u) → H' b = some (.frz o u)
  tbls : ∀ b ps, H b = some (.tbl ps) → ∃ more, H' b = some (.tbl (ps ++ more))
section
variable {fs fs' ex ex' : List Addr} {H H1 H2 : Hp} {h h1 h2 h' : Heap} {a x e : Addr} {o : HO}
theorem Un.any (u : Un fs ex H H1 h h1) {b : Addr} {ob : Obj} (q : h.get? b = some ob) (n : H b = none) (hx : b ∉ ex) : ∃ sl, h1.get? b = some { ob with slots := sl } := by
  by_cases hb : b ∈ fs
  · exact u.slot b ob q n hb hx
  · exact ⟨ob.slots, u.keep b ob q n hb hx⟩
theorem Un.kept (k : ∀ b u, h.get? b = some u → h'.get? b = some u) : Un fs ex H H h h' :=
  ⟨fun b ob q _ _ _ => k b ob q, fun b ob q _ _ _ => ⟨ob.slots, k b ob q⟩, fun _ _ _ n _ => n, fun b ob q _ => ⟨ob, k b ob q⟩, fun _ _ q => q, fun _ _ _ q => q, fun _ ps q => ⟨#[], by rw [q]; simp⟩⟩
theorem Un.refl : Un fs ex H H h h := Un.kept fun _ _ q => q
theorem Un.laid (k : ∀ b u, h.get? b = some u → h'.get? b = some u) (hp : h.objs.size ≤ a) (hn : H a = none) : Un fs ex H (upd H a o) h h' where
  keep := fun b u q _ _ _ => k b u q
  slot := fun b u q _ _ _ => ⟨u.slots, k b u q⟩
  free := fun b u q n _ => by rw [upd_ne (Nat.ne_of_lt (Nat.lt_of_lt_of_le (Heap.lt_size q) hp))]; exact n
  there := fun b u q _ => ⟨u, k b u q⟩
  tups := fun b xs q => by rw [upd_ne (ne_of_none q hn)]; exact q
  frzs := fun b u xs q => by rw [upd_ne (ne_of_none q hn)]; exact q
  tbls := fun b ps q => ⟨#[], by rw [upd_ne (ne_of_none q hn), q]; simp⟩
theorem Un.write (mu : Mut (H x)) (he : e = x ∨ H e = some (.own x)) (k : ∀ b u, b ≠ e → h.get? b = some u → h'.get? b = some u) (heo : ∃ u, h'.get? e = some u) : Un fs ex H (upd H x o) h h' := by
  have hx : ∀ b, H b = none → b ≠ x := fun b n z => by subst z; rw [n] at mu; exact mu
  have hb : ∀ b, H b = none → b ≠ e := fun b n z => by
    subst z
    rcases he with r | r
    · exact hx b n r
    · rw [n] at r; cases r
  have hm : ∀ b u, H b = some u → ¬ Mut (some u) → b ≠ x := fun b u q nm z => by subst z; rw [q] at mu; exact nm mu
  refine ⟨fun b u q n _ _ => k b u (hb b n) q, fun b u q n _ _ => ⟨u.slots, k b u (hb b n) q⟩, fun b u q n _ => by rw [upd_ne (hx b n)]; exact n, fun b u q _ => ?_,
    fun b xs q => by rw [upd_ne (hm b _ q fun z => z)]; exact q, fun b u xs q => by rw [upd_ne (hm b _ q fun z => z)]; exact q, fun b ps q => ⟨#[], by rw [upd_ne (hm b _ q fun z => z), q]; simp⟩⟩
  by_cases hbe : b = e
  · subst hbe; exact heo
  · exact ⟨u, k b u hbe q⟩
end

def trk (h : Heap) (H : Hp) : List Addr := (List.range h.objs.size).filter fun a => (H a).isSome
def hidT (h : Heap) (H : Hp) : Heap := PySem.W.hideAll h (trk h H)
theorem hidT_size (h : Heap) (H : Hp) : (hidT h H).objs.size = h.objs.size := PySem.W.hideAll_size _ _
theorem hidT_get {h : Heap} {H : Hp} {b : Addr} {o : Obj} (e : h.get? b = some o) (n : H b = none) : (hidT h H).get? b = some o :=
  PySem.W.hideAll_get _ e fun hm => by
    have q : (H b).isSome = true := (List.mem_filter.mp hm).2
    rw [n] at q; simp at q
theorem of_hidT {h : Heap} {H : Hp} {b : Addr} {o : Obj} (e : (hidT h H).get? b = some o) : h.get? b = some o ∧ H b = none := by
  have e' : h.get? b = some o := PySem.W.of_hideAll (trk h H) e
  refine ⟨e', ?_⟩
  cases q : H b with
  | none => rfl
  | some x =>
    have hm : b ∈ trk h H := List.mem_filter.mpr ⟨List.mem_range.mpr (Heap.lt_size e'), by simp [q]⟩
    have z : (hidT h H).get? b = none := PySem.W.hideAll_none (trk h H) hm
    rw [z] at e; cases e

end L2

namespace L2
open PySem PySem.Spec PyProof.Rows

structure Mod (K : PySem.W.Frag) (mg : Str → Option Value) (base : Heap) : Prop where
  kin : K.In base
  glob : base.Ns mainGlobals mg
  blt : ∃ mb, base.Ns builtinsNs mb ∧ ∀ x : Str, x ≠ "__name__" → mb x = bootBuiltins x
  nolimit : base.NoLimit

structure Cx where
  prog : Program
  w : World
  K : PySem.W.Frag
  mg : Str → Option Value
  base : Heap
  A : Around
  N : List Str
  s₀ : Shared
  H₀ : Hp
  env : Env
  outer : List Env
  stack : List Env
  ex : List Addr
  fn : Str → Bool
  calm : Bool
  pn : List (Addr × Obj)
  xe : Value → Shared → Prop
def frs (l : List Env) : List Addr := l.filterMap (·.frame)
abbrev Cx.fs (X : Cx) : List Addr := frs X.outer

def Vis (sc : Scope) (x : Str) : Prop := sc.names.lookup x = some .local ∨ sc.names.lookup x = some .cell ∨ sc.names.lookup x = some .free
def Loc (sc : Scope) (x : Str) : Prop := sc.names.lookup x = some .local ∨ sc.names.lookup x = some .cell
def Look (env : Env) (h : Heap) (m : Str → Option Value) (x : Str) (u : Value) : Prop :=
  (env.kindOf x = some .local ∧ m x = some u) ∨ ((env.kindOf x = some .cell ∨ env.kindOf x = some .free) ∧ ∃ c, env.cells.lookup x = some c ∧ h.IsCell c (some u))

structure Cx.Ok (X : Cx) : Prop where
  mod : Mod X.K X.mg X.base
  kind : X.env.scope.kind = .function
  glob : X.env.globals = mainGlobals
  blt : X.env.builtins = builtinsNs
  above : X.s₀.heap.objs.size ≤ X.env.locals
  inj : ∀ x y c, X.env.cells.lookup x = some c → X.env.cells.lookup y = some c → x = y
  has : ∀ x, (X.env.kindOf x = some .cell ∨ X.env.kindOf x = some .free) → ∃ c, X.env.cells.lookup x = some c
  cab : ∀ x c, X.fn x = true → X.env.cells.lookup x = some c → X.s₀.heap.objs.size ≤ c
  hd : X.calm = true → X.A.handled = none
  frames : X.A.frames = some X.stack
  stk : X.stack = X.outer ∨ (X.stack = X.env :: X.outer ∧ X.env.frame = some X.env.locals)
  exf : ∀ b ∈ X.ex, b ≠ X.env.locals ∧ ∀ x c, X.env.cells.lookup x = some c → c ≠ b
  bs : ∀ b o, X.base.get? b = some o → X.s₀.heap.get? b = some o ∧ X.H₀ b = none
  bsz : X.base.objs.size ≤ X.s₀.heap.objs.size
  noex : ∀ b o, X.base.get? b = some o → b ∉ X.ex
  exfs : ∀ b ∈ X.ex, b ∉ X.fs
  funs : X.s₀.heap.FunFrames X.base X.outer
  frf : ∀ b ∈ X.fs, X.H₀ b = none

structure Inv (X : Cx) (pins : List (Addr × Obj)) (σ : List (Option V)) (H : Hp) (s : Shared) : Prop where
  ok : X.Ok
  os : s.os = X.s₀.os
  bare : AllBare s.gens
  base : Un X.fs X.ex X.H₀ H X.s₀.heap s.heap
  loc : ∃ m, s.heap.Ns X.env.locals m ∧ ∀ (i : Nat) (x : Str) (v : V), X.N[i]? = some x → σ[i]? = some (some v) → Vis X.env.scope x → ∃ u, RelV v u ∧ Look X.env s.heap m x u
  cell : ∀ x c, X.env.cells.lookup x = some c → ∃ v, s.heap.IsCell c v
  free : H X.env.locals = none
  freeC : ∀ x c, X.env.cells.lookup x = some c → H c = none
  pin : ∀ p ∈ X.pn ++ pins, s.heap.get? p.1 = some p.2 ∧ H p.1 = none ∧ p.1 ≠ X.env.locals ∧ p.1 ∉ X.fs ∧ ∀ v, p.2.data ≠ .cell v
  hok : HOk X.prog X.w H s.heap
  len : σ.length = X.N.length

section
variable {X : Cx} {pins : List (Addr × Obj)} {σ : List (Option V)} {H H' : Hp} {s : Shared} {h' : Heap}

theorem Cx.Ok.nofr (ok : X.Ok) {b : Addr} {o : Obj} (e : X.base.get? b = some o) : b ∉ X.fs := fun hb => by
  have := (ok.funs.mem hb).1
  rw [e] at this; cases this
theorem Inv.bs (I : Inv X pins σ H s) : ∀ b o, X.base.get? b = some o → s.heap.get? b = some o ∧ H b = none := fun b o e =>
  ⟨I.base.keep b o (I.ok.bs b o e).1 (I.ok.bs b o e).2 (I.ok.nofr e) (I.ok.noex b o e), I.base.free b o (I.ok.bs b o e).1 (I.ok.bs b o e).2 (I.ok.noex b o e)⟩
theorem Inv.bk (I : Inv X pins σ H s) : ∀ b o, X.base.get? b = some o → s.heap.get? b = some o := fun b o e => (I.bs b o e).1
theorem Inv.mod (I : Inv X pins σ H s) : Mod X.K X.mg X.base := I.ok.mod
theorem Inv.kIn (I : Inv X pins σ H s) : X.K.In s.heap := I.ok.mod.kin.keeps I.bk
theorem Inv.fr (I : Inv X pins σ H s) : ∃ m, Fr X.base X.env.locals s.heap m :=
  let ⟨m, hn, _⟩ := I.loc
  ⟨m, hn, I.bk, Nat.le_trans I.ok.bsz I.ok.above⟩
theorem Inv.lt (I : Inv X pins σ H s) : X.env.locals < s.heap.objs.size := let ⟨_, hn, _⟩ := I.loc; hn.lt
theorem Inv.sz (I : Inv X pins σ H s) : X.s₀.heap.objs.size ≤ s.heap.objs.size := Nat.le_trans I.ok.above (Nat.le_of_lt I.lt)
theorem Inv.nofs (I : Inv X pins σ H s) {a : Addr} (h : s.heap.objs.size ≤ a) : a ∉ X.fs := fun hb => by
  refine bg fun G' g' => ?_
  obtain ⟨_, o, ho, _⟩ := I.ok.funs.mem hb
  refine g' ?_
  clear g' G'
  exact absurd (Nat.lt_of_lt_of_le (Heap.lt_size ho) (Nat.le_trans I.sz h)) (Nat.lt_irrefl _)
theorem Inv.cne (I : Inv X pins σ H s) : ∀ x c, X.env.cells.lookup x = some c → c ≠ X.env.locals := fun x c e z => by
  refine bg fun G' g' => ?_
  obtain ⟨v, o, ho, hd⟩ := I.cell x c e
  refine g' ?_
  clear g' G'
  refine bg fun G' g' => ?_
  obtain ⟨m, ⟨o', es, ep, ho', hd', _⟩, _⟩ := I.loc
  refine g' ?_
  clear g' G'
  rw [z, ho'] at ho; cases ho; rw [hd'] at hd; cases hd
theorem Inv.funs (I : Inv X pins σ H s) : s.heap.FunFrames X.base X.outer := by
  have all : ∀ (l : List Env), (∀ b ∈ frs l, b ∈ X.fs) → X.s₀.heap.FunFrames X.base l → s.heap.FunFrames X.base l := by
    intro l
    induction l with
    | nil => intro _ _; trivial
    | cons env r ih =>
      intro hs hl
      refine bg fun G' g' => ?_
      obtain ⟨hk, ⟨L, o, hf, hn, ho, hd⟩, hr⟩ := hl
      refine g' ?_
      clear g' G'
      have hL : L ∈ X.fs := hs L (by unfold frs; rw [List.filterMap_cons, hf]; exact List.mem_cons_self)
      obtain ⟨sl, e⟩ := I.base.slot L o ho (I.ok.frf L hL) hL fun z => I.ok.exfs L z hL
      exact ⟨hk, ⟨L, _, hf, hn, e, hd⟩, ih (fun b hb => hs b (by unfold frs; rw [List.filterMap_cons, hf]; exact List.mem_cons_of_mem _ hb)) hr⟩
  exact all X.outer (fun _ hb => hb) I.ok.funs

theorem Inv.stack (I : Inv X pins σ H s) : s.heap.FunFrames X.base X.stack := by
  rcases I.ok.stk with e | ⟨e, hf⟩
  · rw [e]; exact I.funs
  · rw [e]
    refine bg fun G' g' => ?_
    obtain ⟨m, hn, _⟩ := I.loc
    refine g' ?_
    clear g' G'
    refine .cons (by rw [I.ok.kind]; decide) hf hn ?_ I.funs
    exact Heap.get?_none_of_le (Nat.le_trans I.ok.bsz I.ok.above)
theorem Inv.stkSub (I : Inv X pins σ H s) : ∀ b ∈ frs X.stack, b ∈ X.env.locals :: X.fs := fun b hb => by
  rcases I.ok.stk with e | ⟨e, hf⟩
  · rw [e] at hb; exact List.mem_cons_of_mem _ hb
  · rw [e] at hb
    unfold frs at hb
    rw [List.filterMap_cons, hf] at hb
    exact hb
theorem Inv.stkFree (I : Inv X pins σ H s) : ∀ b ∈ frs X.stack, H b = none := fun b hb => by
  rcases List.mem_cons.mp (I.stkSub b hb) with e | hb
  · rw [e]; exact I.free
  · refine bg fun G' g' => ?_
    obtain ⟨_, o, ho, _⟩ := I.ok.funs.mem hb
    refine g' ?_
    clear g' G'
    exact I.base.free b o ho (I.ok.frf b hb) fun z => I.ok.exfs b z hb

theorem Inv.step {g' : Array GenState} {t' : Nat} {d' : Drawn} {ch : List Addr} (I : Inv X pins σ H s)
    (hch : ∀ b ∈ ch, (b ∈ X.ex ∨ X.s₀.heap.objs.size ≤ b) ∧ b ≠ X.env.locals ∧ (∀ x c, X.env.cells.lookup x = some c → c ≠ b) ∧ ∀ p ∈ X.pn ++ pins, p.1 ≠ b)
    (keep : ∀ b o, b ≠ X.env.locals → b ∉ X.fs → b ∉ ch → s.heap.get? b = some o → H b = none → h'.get? b = some o)
    (slot : ∀ b o, b ≠ X.env.locals → b ∈ X.fs → b ∉ ch → s.heap.get? b = some o → H b = none → ∃ sl, h'.get? b = some { o with slots := sl }) (free : ∀ b o, b ∉ ch → s.heap.get? b = some o → H b = none → H' b = none)
    (there : ∀ b o, b ∉ ch → s.heap.get? b = some o → ∃ o', h'.get? b = some o')
    (tups : ∀ b xs, H b = some (.tup xs) → H' b = some (.tup xs)) (frzs : ∀ b o u, H b = some (.frz o u) → H' b = some (.frz o u)) (tbls : ∀ b ps, H b = some (.tbl ps) → ∃ more, H' b = some (.tbl (ps ++ more)))
    (ns : ∀ m, s.heap.Ns X.env.locals m → h'.Ns X.env.locals m) (hok : HOk X.prog X.w H' h') (hg : AllBare g') :
    Inv X pins σ H' { s with heap := h', gens := g', drawn := d', toks := t' } := by
  have neL : ∀ b o, X.s₀.heap.get? b = some o → b ≠ X.env.locals := fun b o e => Nat.ne_of_lt (Nat.lt_of_lt_of_le (Heap.lt_size e) I.ok.above)
  have neC : ∀ b o, X.s₀.heap.get? b = some o → b ∉ X.ex → b ∉ ch := fun b o e hx hb => by
    rcases (hch b hb).1 with z | z
    · exact hx z
    · exact absurd (Nat.lt_of_lt_of_le (Heap.lt_size e) z) (Nat.lt_irrefl _)
  have cellK : ∀ x c, X.env.cells.lookup x = some c → ∀ v, s.heap.IsCell c v → h'.IsCell c v := fun x c e v ⟨o, ho, hd⟩ => by
    have nch : c ∉ ch := fun z => (hch c z).2.2.1 x c e rfl
    by_cases hc : c ∈ X.fs
    · obtain ⟨sl, q⟩ := slot c o (I.cne x c e) hc nch ho (I.freeC x c e)
      exact ⟨_, q, hd⟩
    · exact ⟨o, keep c o (I.cne x c e) hc nch ho (I.freeC x c e), hd⟩
  refine ⟨I.ok, I.os, hg, ⟨fun b o e n hb hx => ?_, fun b o e n hb hx => ?_, fun b o e n hx => ?_, fun b o e hx => ?_, fun b xs e => tups b xs (I.base.tups b xs e), fun b o xs e => frzs b o xs (I.base.frzs b o xs e), fun b ps e => ?_⟩, ?_, fun x c e => ?_, ?_, fun x c e => ?_, fun p hp => ?_, hok, I.len⟩
  · exact keep b o (neL b o e) hb (neC b o e hx) (I.base.keep b o e n hb hx) (I.base.free b o e n hx)
  · obtain ⟨sl, e1⟩ := I.base.slot b o e n hb hx
    obtain ⟨sl', e2⟩ := slot b _ (neL b o e) hb (neC b o e hx) e1 (I.base.free b o e n hx)
    exact ⟨sl', e2⟩
  · obtain ⟨o', e1⟩ := I.base.there b o e hx
    exact free b o' (neC b o e hx) e1 (I.base.free b o e n hx)
  · obtain ⟨o', e1⟩ := I.base.there b o e hx
    exact there b o' (neC b o e hx) e1
  · obtain ⟨m1, e1⟩ := I.base.tbls b ps e
    obtain ⟨m2, e2⟩ := tbls b _ e1
    exact ⟨m1 ++ m2, by rw [e2, Array.append_assoc]⟩
  · refine bg fun G' g' => ?_
    obtain ⟨m, hn, hl⟩ := I.loc
    refine g' ?_
    clear g' G'
    refine ⟨m, ns m hn, fun i x v e1 e2 e3 => ?_⟩
    refine bg fun G' g' => ?_
    obtain ⟨u, r, l⟩ := hl i x v e1 e2 e3
    refine g' ?_
    clear g' G'
    refine ⟨u, r, ?_⟩
    rcases l with l | ⟨k, c, e, z⟩
    · exact .inl l
    · exact .inr ⟨k, c, e, cellK x c e _ z⟩
  · obtain ⟨v, z⟩ := I.cell x c e
    exact ⟨v, cellK x c e v z⟩
  · refine bg fun G' g' => ?_
    obtain ⟨m, ⟨o, _, _, ho, _⟩, _⟩ := I.loc
    refine g' ?_
    clear g' G'
    exact free _ o (fun z => (hch _ z).2.1 rfl) ho I.free
  · refine bg fun G' g' => ?_
    obtain ⟨v, o, ho, hd⟩ := I.cell x c e
    refine g' ?_
    clear g' G'
    exact free c o (fun z => (hch c z).2.2.1 x c e rfl) ho (I.freeC x c e)
  · refine bg fun G' g' => ?_
    obtain ⟨e, n, ne, nf, d⟩ := I.pin p hp
    refine g' ?_
    clear g' G'
    have nch : p.1 ∉ ch := fun z => (hch p.1 z).2.2.2 p hp rfl
    exact ⟨keep p.1 p.2 ne nf nch e n, free p.1 p.2 nch e n, ne, nf, d⟩
theorem Inv.un {t' : Nat} (I : Inv X pins σ H s) (u : Un X.fs [] H H' s.heap h') (hok : HOk X.prog X.w H' h') : Inv X pins σ H' { s with heap := h', toks := t' } := by
  refine bg fun G' g' => ?_
  obtain ⟨m, ⟨o, es, ep, ho, r⟩, _⟩ := id I.loc
  refine g' ?_
  clear g' G'
  obtain ⟨sl, hL⟩ := u.any ho I.free (by simp)
  exact I.step (g' := s.gens) (d' := s.drawn) (ch := []) (fun _ z => nomatch z) (fun b o _ hb _ e n => u.keep b o e n hb (by simp)) (fun b o _ hb _ e n => u.slot b o e n hb (by simp)) (fun b o _ e n => u.free b o e n (by simp)) (fun b o _ e => u.there b o e (by simp)) u.tups u.frzs u.tbls (fun m' hm => by
    refine bg fun G' g' => ?_
    obtain ⟨o', es', ep', ho', r'⟩ := hm
    refine g' ?_
    clear g' G'
    rw [ho] at ho'; cases ho'
    exact ⟨_, es', ep', hL, r'⟩) hok I.bare
theorem Inv.call {g' : Array GenState} {t' : Nat} {d' : Drawn} {ch : List Addr} (I : Inv X pins σ H s) (u : Un (frs X.stack) ch H H' s.heap h') (hok : HOk X.prog X.w H' h') (hg : AllBare g')
    (hch : ∀ b ∈ ch, (b ∈ X.ex ∨ X.s₀.heap.objs.size ≤ b) ∧ b ≠ X.env.locals ∧ (∀ x c, X.env.cells.lookup x = some c → c ≠ b) ∧ ∀ p ∈ X.pn ++ pins, p.1 ≠ b) :
    Inv X pins σ H' { s with heap := h', gens := g', drawn := d', toks := t' } := by
  refine bg fun G' g' => ?_
  obtain ⟨m, ⟨o, es, ep, ho, r⟩, _⟩ := id I.loc
  refine g' ?_
  clear g' G'
  obtain ⟨sl, hL⟩ := u.any ho I.free fun z => (hch _ z).2.1 rfl
  exact I.step (ch := ch) hch (fun b o hL hb hc e n => u.keep b o e n (fun z => (List.mem_cons.mp (I.stkSub b z)).elim hL hb) hc) (fun b o _ _ hc e n => u.any e n hc) (fun b o hc e n => u.free b o e n hc) (fun b o hc e => u.there b o e hc) u.tups u.frzs u.tbls (fun m' hm => by
    refine bg fun G' g' => ?_
    obtain ⟨o', es', ep', ho', r'⟩ := hm
    refine g' ?_
    clear g' G'
    rw [ho] at ho'; cases ho'
    exact ⟨_, es', ep', hL, r'⟩) hok hg
theorem Inv.turned {t' : Nat} {it : Addr} (I : Inv X pins σ H s) (k : ∀ b o, b ≠ it → s.heap.get? b = some o → h'.get? b = some o) (hn : H it = none) (hL : it ≠ X.env.locals)
    (h1 : it ∈ X.ex ∨ X.s₀.heap.objs.size ≤ it) (h2 : ∀ x c, X.env.cells.lookup x = some c → c ≠ it) (h3 : ∀ p ∈ X.pn ++ pins, p.1 ≠ it) : Inv X pins σ H { s with heap := h', toks := t' } := by
  have nit : ∀ b u, H b = some u → b ≠ it := fun b u e z => by rw [z, hn] at e; cases e
  refine I.step (g' := s.gens) (d' := s.drawn) (ch := [it]) (fun b hb => ?_) (fun b o _ _ hc e _ => k b o (fun z => hc (by simp [z])) e) (fun b o _ _ hc e _ => ⟨o.slots, k b o (fun z => hc (by simp [z])) e⟩) (fun _ _ _ _ n => n)
    (fun b o hc e => ⟨o, k b o (fun z => hc (by simp [z])) e⟩) (fun _ _ e => e) (fun _ _ _ e => e) (fun b ps e => ⟨#[], by rw [e]; simp⟩) (fun m hm => ?_) (fun b u e => ?_) I.bare
  · have e : b = it := by simpa using hb
    subst e
    exact ⟨h1, hL, h2, h3⟩
  · refine bg fun G' g' => ?_
    obtain ⟨o, es, ep, ho, r⟩ := hm
    refine g' ?_
    clear g' G'
    exact ⟨o, es, ep, k _ o (Ne.symm hL) ho, r⟩
  · refine (I.hok b u e).stay (fun c v hc q => k c v ?_ q) (fun _ q => q) fun _ _ q => q
    rcases hc with z | z
    · rw [z]; exact nit b u e
    · exact nit c _ z
theorem Inv.tok (I : Inv X pins σ H s) (t : Nat) : Inv X pins σ H { s with toks := t } := I.un (h' := s.heap) (t' := t) Un.refl I.hok
theorem Inv.kept {t' : Nat} (I : Inv X pins σ H s) (k : ∀ b u, s.heap.get? b = some u → h'.get? b = some u) : Inv X pins σ H { s with heap := h', toks := t' } := I.un (Un.kept k) (I.hok.kept k)
theorem Inv.laid {a : Addr} {o : HO} {t' : Nat} (I : Inv X pins σ H s) (k : ∀ b u, s.heap.get? b = some u → h'.get? b = some u) (hp : s.heap.objs.size ≤ a) (new : ObjOk X.prog X.w (upd H a o) h' a o) :
    Inv X pins σ (upd H a o) { s with heap := h', toks := t' } := I.un (Un.laid k hp (I.hok.fresh hp)) (I.hok.laid k hp new)
theorem Inv.write {x e : Addr} {o : HO} {t' : Nat} (I : Inv X pins σ H s) (mu : Mut (H x)) (he : e = x ∨ H e = some (.own x)) (k : ∀ b u, b ≠ e → s.heap.get? b = some u → h'.get? b = some u) (heo : ∃ u, h'.get? e = some u)
    (new : ObjOk X.prog X.w (upd H x o) h' x o) : Inv X pins σ (upd H x o) { s with heap := h', toks := t' } := I.un (Un.write mu he k heo) (I.hok.write mu he k heo new)
theorem Inv.weak {σ' : List (Option V)} (I : Inv X pins σ H s) (hl : σ'.length = σ.length) (w : ∀ (i : Nat) v, σ'[i]? = some (some v) → σ[i]? = some (some v)) : Inv X pins σ' H s :=
  ⟨I.ok, I.os, I.bare, I.base, let ⟨m, hn, hl'⟩ := I.loc; ⟨m, hn, fun i x v e1 e2 e3 => hl' i x v e1 (w i v e2) e3⟩, I.cell, I.free, I.freeC, I.pin, I.hok, hl.trans I.len⟩
theorem Inv.pins_of {pins' : List (Addr × Obj)} (I : Inv X pins σ H s) (h : ∀ p ∈ pins', s.heap.get? p.1 = some p.2 ∧ H p.1 = none ∧ p.1 ≠ X.env.locals ∧ p.1 ∉ X.fs ∧ ∀ v, p.2.data ≠ .cell v) : Inv X pins' σ H s :=
  ⟨I.ok, I.os, I.bare, I.base, I.loc, I.cell, I.free, I.freeC, fun p hp => (List.mem_append.mp hp).elim (fun z => I.pin p (List.mem_append_left _ z)) (h p), I.hok, I.len⟩

theorem nodup_ix {N : List Str} (hN : N.Nodup) {i j : Nat} {x : Str} (a : N[i]? = some x) (b : N[j]? = some x) : i = j := by
  obtain ⟨h1, e1⟩ := List.getElem?_eq_some_iff.mp a
  obtain ⟨h2, e2⟩ := List.getElem?_eq_some_iff.mp b
  exact (List.getElem_inj hN).mp (e1.trans e2.symm)

theorem store_ok2 {M : Model} {A : Around} {E : Value → Shared → Prop} {i : Nat} {x : Str} {v : V} {u : Value} {Q : Unit → Shared → Prop} (I : Inv X pins σ H s) (hN : X.N.Nodup) (hi : X.N[i]? = some x) (hx : Loc X.env.scope x) (r : RelV v u)
    (h : ∀ s', Inv X pins (σ.set i (some v)) H s' → (∃ a, Heap.SameBut a s.heap s'.heap ∧ (a = X.env.locals ∨ X.env.cells.lookup x = some a)) → Q () s') (hf : X.fn x = true ∨ X.env.scope.names.lookup x = some .local := by first | exact .inl rfl | exact .inr rfl | assumption) : wpAny M A (storeName X.env x u) Q E s := by
  refine bg fun G' g' => ?_
  obtain ⟨m, hn, hl⟩ := id I.loc
  refine g' ?_
  clear g' G'
  have hcls : (X.env.scope.kind == .class || (X.env.scope.kind == .module && X.env.locals != X.env.globals)) = false := by rw [I.ok.kind]; rfl
  have hiσ : i < σ.length := by rw [I.len]; exact (List.getElem?_eq_some_iff.mp hi).1
  have cne := I.cne
  have tracked : ∀ {a : Addr} {h' : Heap}, (∃ o, s.heap.get? a = some o ∧ H a = none) → Heap.SameBut a s.heap h' → HOk X.prog X.w H h' := fun {a h'} ha hs b ob e => by
    refine bg fun G' g' => ?_
    obtain ⟨_, _, hfree⟩ := ha
    refine g' ?_
    clear g' G'
    refine (I.hok b ob e).stay (fun c w' hc q => (hs.2 c ?_).trans q) (fun _ q => q) fun _ _ q => q
    rintro rfl
    rcases hc with rfl | hc
    · rw [hfree] at e; cases e
    · rw [hfree] at hc; cases hc
  rcases hx with hk | hk
  · refine wpAny_storeName_local hk hn (fun h' hn' hs => ?_) hcls
    refine bg fun G' g' => ?_
    obtain ⟨oL, _, _, hoL, _⟩ := id hn
    refine g' ?_
    clear g' G'
    refine h _ ⟨I.ok, I.os, I.bare, ⟨fun b o e n hb hx => ?_, fun b o e n hb hx => ?_, I.base.free, fun b o e hx => ?_, I.base.tups, I.base.frzs, I.base.tbls⟩, ⟨_, hn', fun j y v' e1 e2 e3 => ?_⟩, fun y c e => ?_, I.free, I.freeC, fun p hp => ?_, tracked ⟨oL, hoL, I.free⟩ hs, by simpa using I.len⟩ ⟨_, hs, .inl rfl⟩
    · exact (hs.2 b (Nat.ne_of_lt (Nat.lt_of_lt_of_le (Heap.lt_size e) I.ok.above))).trans (I.base.keep b o e n hb hx)
    · obtain ⟨sl, e1⟩ := I.base.slot b o e n hb hx
      exact ⟨sl, (hs.2 b (Nat.ne_of_lt (Nat.lt_of_lt_of_le (Heap.lt_size e) I.ok.above))).trans e1⟩
    · obtain ⟨o', e1⟩ := I.base.there b o e hx
      exact ⟨o', (hs.2 b (Nat.ne_of_lt (Nat.lt_of_lt_of_le (Heap.lt_size e) I.ok.above))).trans e1⟩
    · by_cases hj : j = i
      · subst hj
        rw [hi] at e1; cases e1
        rw [List.getElem?_set_self hiσ] at e2
        cases e2
        exact ⟨u, r, .inl ⟨hk, by simp⟩⟩
      · rw [List.getElem?_set_ne (Ne.symm hj)] at e2
        refine bg fun G' g' => ?_
        obtain ⟨u', r', q⟩ := hl j y v' e1 e2 e3
        refine g' ?_
        clear g' G'
        refine ⟨u', r', ?_⟩
        rcases q with ⟨k, e⟩ | ⟨k, c, e, z⟩
        · refine .inl ⟨k, ?_⟩
          have : y ≠ x := fun e => hj (nodup_ix hN e1 (e ▸ hi))
          simp [this, e]
        · exact .inr ⟨k, c, e, z.sameBut hs (cne y c e)⟩
    · obtain ⟨w', z⟩ := I.cell y c e
      exact ⟨w', z.sameBut hs (cne y c e)⟩
    · refine bg fun G' g' => ?_
      obtain ⟨e, n, ne, nf, d⟩ := I.pin p hp
      refine g' ?_
      clear g' G'
      exact ⟨(hs.2 p.1 ne).trans e, n, ne, nf, d⟩
  · have hfn : X.fn x = true := by
      rcases hf with z | z
      · exact z
      · rw [z] at hk; cases hk
    obtain ⟨c, hc⟩ := I.ok.has x (.inl hk)
    obtain ⟨w', z⟩ := I.cell x c hc
    refine wpAny_storeName_cell I.ok.kind hk hc z (fun h' hc' hs => ?_)
    refine bg fun G' g' => ?_
    obtain ⟨oc, hoc, hocd⟩ := id z
    refine g' ?_
    clear g' G'
    refine h { s with heap := h' } ⟨I.ok, I.os, I.bare, ⟨fun b o e n hb hx => ?_, fun b o e n hb hx => ?_, I.base.free, fun b o e hx => ?_, I.base.tups, I.base.frzs, I.base.tbls⟩, ⟨m, hn.sameBut hs (Ne.symm (cne x c hc)), fun j y v' e1 e2 e3 => ?_⟩, fun y c' e => ?_, I.free, I.freeC, fun p hp => ?_, tracked ⟨oc, hoc, I.freeC x c hc⟩ hs, by simpa using I.len⟩ ⟨c, hs, .inr hc⟩
    · exact (hs.2 b (Nat.ne_of_lt (Nat.lt_of_lt_of_le (Heap.lt_size e) (I.ok.cab x c hfn hc)))).trans (I.base.keep b o e n hb hx)
    · obtain ⟨sl, e1⟩ := I.base.slot b o e n hb hx
      exact ⟨sl, (hs.2 b (Nat.ne_of_lt (Nat.lt_of_lt_of_le (Heap.lt_size e) (I.ok.cab x c hfn hc)))).trans e1⟩
    · obtain ⟨o', e1⟩ := I.base.there b o e hx
      exact ⟨o', (hs.2 b (Nat.ne_of_lt (Nat.lt_of_lt_of_le (Heap.lt_size e) (I.ok.cab x c hfn hc)))).trans e1⟩
    · by_cases hj : j = i
      · subst hj
        rw [hi] at e1; cases e1
        rw [List.getElem?_set_self hiσ] at e2
        cases e2
        exact ⟨u, r, .inr ⟨.inl hk, c, hc, hc'⟩⟩
      · rw [List.getElem?_set_ne (Ne.symm hj)] at e2
        refine bg fun G' g' => ?_
        obtain ⟨u', r', q⟩ := hl j y v' e1 e2 e3
        refine g' ?_
        clear g' G'
        refine ⟨u', r', ?_⟩
        rcases q with q | ⟨k, c', e, z'⟩
        · exact .inl q
        · refine .inr ⟨k, c', e, z'.sameBut hs ?_⟩
          rintro rfl
          exact hj (nodup_ix hN e1 (I.ok.inj _ _ _ e hc ▸ hi))
    · by_cases hcc : c' = c
      · subst hcc; exact ⟨_, hc'⟩
      · obtain ⟨w2, z2⟩ := I.cell y c' e
        exact ⟨w2, z2.sameBut hs hcc⟩
    · refine bg fun G' g' => ?_
      obtain ⟨e, n, ne, nf, d⟩ := I.pin p hp
      refine g' ?_
      clear g' G'
      refine ⟨(hs.2 p.1 ?_).trans e, n, ne, nf, d⟩
      intro q
      rw [q, hoc] at e
      have q' : oc = p.2 := Option.some.inj e
      exact d w' (by rw [← q']; exact hocd)
theorem store_ok {M : Model} {A : Around} {E : Value → Shared → Prop} {i : Nat} {x : Str} {v : V} {u : Value} {Q : Unit → Shared → Prop} (I : Inv X pins σ H s) (hN : X.N.Nodup) (hi : X.N[i]? = some x) (hx : Loc X.env.scope x) (r : RelV v u)
    (h : ∀ s', Inv X pins (σ.set i (some v)) H s' → Q () s') (hf : X.fn x = true ∨ X.env.scope.names.lookup x = some .local := by first | exact .inl rfl | exact .inr rfl | assumption) : wpAny M A (storeName X.env x u) Q E s :=
  store_ok2 I hN hi hx r (fun s' I' _ => h s' I') hf
theorem Inv.call' {s' : Shared} {ch : List Addr} (I : Inv X pins σ H s) (ho : s'.os = s.os) (u : Un (frs X.stack) ch H H' s.heap s'.heap) (hok : HOk X.prog X.w H' s'.heap) (hg : AllBare s'.gens)
    (hch : ∀ b ∈ ch, (b ∈ X.ex ∨ X.s₀.heap.objs.size ≤ b) ∧ b ≠ X.env.locals ∧ (∀ x c, X.env.cells.lookup x = some c → c ≠ b) ∧ ∀ p ∈ X.pn ++ pins, p.1 ≠ b) : Inv X pins σ H' s' := by
  refine bg fun G' g' => ?_
  obtain ⟨h', g', d', t', o'⟩ := s'
  refine g' ?_
  clear g' G'
  have e : o' = s.os := ho
  subst e
  exact I.call (g' := g') (t' := t') (d' := d') u hok hg hch
end

abbrev XK := Value → Option Addr → Hp → Prop
abbrev St := List (Option V)
abbrev VK := V → Hp → Prop
abbrev TE := St → Hp → VK → Prop
abbrev TT := St → Hp → (Bool → Hp → Prop) → Prop
abbrev TA := St → Hp → (List V → Hp → Prop) → Prop
structure Ends where
  nx : St → Hp → Prop
  rt : VK
  bk : St → Hp → Prop := fun _ _ => False
  ct : St → Hp → Prop := fun _ _ => False
abbrev TS := Ends → St → Hp → Prop

inductive EP (X : Cx) (pins : List (Addr × Obj)) (σ : St) (Q : VK) (u : Value) (s' : Shared) : Prop
  | mk (v : _) (H' : _) (c_1 : Inv X pins σ H' s') (c_2 : RelV v u) (c_3 : Q v H')
def TP (X : Cx) (pins : List (Addr × Obj)) (σ : St) (Q : Bool → Hp → Prop) (b : Bool) (s' : Shared) : Prop := ∃ H', Inv X pins σ H' s' ∧ Q b H'
def AP (X : Cx) (pins : List (Addr × Obj)) (σ : St) (Q : List V → Hp → Prop) (us : List Value) (s' : Shared) : Prop := ∃ vs H', Inv X pins σ H' s' ∧ Vals vs us ∧ Q vs H'
def SP (X : Cx) (pins : List (Addr × Obj)) (D : Ends) (f : Flow) (s' : Shared) : Prop :=
  match f with
  | .next => ∃ σ' H', Inv X pins σ' H' s' ∧ D.nx σ' H'
  | .brk => ∃ σ' H', Inv X pins σ' H' s' ∧ D.bk σ' H'
  | .cont => ∃ σ' H', Inv X pins σ' H' s' ∧ D.ct σ' H'
  | .ret u => ∃ v σ' H', Inv X pins σ' H' s' ∧ RelV v u ∧ D.rt v H'

def PE (X : Cx) (e : Expr) (t : TE) : Prop :=
  ∀ (pins : List (Addr × Obj)) (s : Shared) (σ : St) (H : Hp) (Q : VK), Inv X pins σ H s → t σ H Q → wpAny (model X.prog X.w) X.A (eval e X.env) (EP X pins σ Q) X.xe s
def PT (X : Cx) (e : Expr) (t : TT) : Prop :=
  ∀ (pins : List (Addr × Obj)) (s : Shared) (σ : St) (H : Hp) (Q : Bool → Hp → Prop), Inv X pins σ H s → t σ H Q → wpAny (model X.prog X.w) X.A (isTrue e X.env (eval e X.env)) (TP X pins σ Q) X.xe s
def PW (X : Cx) (e : Expr) (t : TT) : Prop :=
  ∀ (whole : Sem Value) (pins : List (Addr × Obj)) (s : Shared) (σ : St) (H : Hp) (Q : Bool → Hp → Prop), Inv X pins σ H s → t σ H Q → wpAny (model X.prog X.w) X.A (isTrue e X.env whole) (TP X pins σ Q) X.xe s
theorem PW.pt {X : Cx} {e : Expr} {t : TT} (h : PW X e t) : PT X e t := h _
def PA (X : Cx) (es : List Expr) (t : TA) : Prop :=
  ∀ (pos : Pos) (pins : List (Addr × Obj)) (s : Shared) (σ : St) (H : Hp) (Q : List V → Hp → Prop), Inv X pins σ H s → t σ H Q → wpAny (model X.prog X.w) X.A (spliced (backTo pos (starEach es X.env))) (AP X pins σ Q) X.xe s
def PS (X : Cx) (st : Stmt) (t : TS) : Prop :=
  ∀ (pins : List (Addr × Obj)) (s : Shared) (σ : St) (H : Hp) (D : Ends), Inv X pins σ H s → t D σ H → wpAny (model X.prog X.w) X.A (exec st X.env) (SP X pins D) X.xe s
def PSs (X : Cx) (st : List Stmt) (t : TS) : Prop :=
  ∀ (pins : List (Addr × Obj)) (s : Shared) (σ : St) (H : Hp) (D : Ends), Inv X pins σ H s → t D σ H → wpAny (model X.prog X.w) X.A (execs st X.env) (SP X pins D) X.xe s
theorem thn {α : Type} {t : Sem α} {Q Q' : α → Shared → Prop} {M : Model} {A : Around} {E : Value → Shared → Prop} {s : Shared} (h : wpAny M A t Q E s) (hQ : ∀ a s, Q a s → Q' a s) : wpAny M A t Q' E s := wpAny_mono h hQ fun _ _ x => x
end L2

namespace L2
open PySem PySem.Spec PyProof.Rows
section
variable {X : Cx}

theorem bin {a b : Expr} {ta tb : TE} (ha : PE X a ta) (hb : PE X b tb) {pins : List (Addr × Obj)} {s : Shared} {σ : St} {H : Hp} {R : V → V → Hp → Prop} (I : Inv X pins σ H s) (h : ta σ H fun x H1 => tb σ H1 fun y H2 => R x y H2)
    {α : Type} {Q : α → Shared → Prop} {f : Value → Value → Sem α}
    (hf : ∀ v u s2 x y H2, Inv X pins σ H2 s2 → RelV x v → RelV y u → R x y H2 → wpAny (model X.prog X.w) X.A (f v u) Q X.xe s2) :
    wpAny (model X.prog X.w) X.A (eval a X.env) (fun v s₁ => wpAny (model X.prog X.w) X.A (eval b X.env) (fun u s₂ => wpAny (model X.prog X.w) X.A (f v u) Q X.xe s₂) X.xe s₁) X.xe s := by
  refine thn (ha pins s σ H _ I h) fun v s1 ⟨x, H1, I1, r1, q1⟩ => ?_
  refine thn (hb pins s1 σ H1 _ I1 q1) fun u s2 ⟨y, H2, I2, r2, q2⟩ => ?_
  exact hf v u s2 x y H2 I2 r1 r2 q2

inductive tVar (i : Nat) (σ : St) (H : Hp) (Q : VK) : Prop
  | mk (v : _) (c_1 : σ[i]? = some (some v)) (c_2 : Q v H)
def tC (v : V) : TE := fun _ H Q => Q v H
theorem pe_var {i : Nat} {x : Str} {pos : Pos} (hN : X.N[i]? = some x) (hv : Vis X.env.scope x) (hd : (x == ("__debug__" : Str)) = false := by decide) (hcd : (x == ("__classdict__" : Str)) = false := by decide) : PE X (.Name x pos) (tVar i) := by
  intro pins s σ H Q I h
  refine bg fun G' g' => ?_
  obtain ⟨v, e, h⟩ := h
  refine g' ?_
  clear g' G'
  refine bg fun G' g' => ?_
  obtain ⟨m, hn, hl⟩ := I.loc
  refine g' ?_
  clear g' G'
  refine bg fun G' g' => ?_
  obtain ⟨u, r, l⟩ := hl i x v hN e hv
  refine g' ?_
  clear g' G'
  have fin : EP X pins σ Q u s := ⟨v, H, I, r, h⟩
  rcases l with ⟨hk, hm⟩ | ⟨hk, c, hc, hcell⟩
  · exact wpAny_Name (wpAny_loadName_local I.ok.kind hk hn hm fin) hd
  · rcases hk with hk | hk
    · exact wpAny_Name (wpAny_loadName_cell I.ok.kind hk hc hcell fin) hd
    · exact wpAny_Name (wpAny_loadName_free I.ok.kind hk hc hcell fin hcd) hd
theorem pe_int {i j pos} : PE X (.Constant (.int i) j pos) (tC (.int i)) := fun _ _ _ H _ I h => wpAny_Constant_int ⟨.int i, H, I.tok _, ⟨_, rfl⟩, h⟩
theorem pe_bl {b j pos} : PE X (.Constant (.bool b) j pos) (tC (.bl b)) := fun _ _ _ H _ I h => Constant_bool ⟨.bl b, H, I, rfl, h⟩
theorem pe_non {j pos} : PE X (.Constant .none j pos) (tC .non) := fun _ _ _ H _ I h => Constant_none ⟨.non, H, I, rfl, h⟩
theorem pe_str {x j pos} : PE X (.Constant (.str x) j pos) (tC (.str x)) := fun _ _ _ H _ I h => Calls.Constant_str ⟨.str x, H, I.tok _, ⟨_, rfl⟩, h⟩

def Gl (X : Cx) (x : Str) : Prop := X.env.kindOf x = some .globalImplicit
theorem ld_glob {E : Value → Shared → Prop} {pins : List (Addr × Obj)} {s : Shared} {σ : St} {H : Hp} {x : Str} {u : Value} {pos : Pos} {Q : Value → Shared → Prop} (I : Inv X pins σ H s) (hg : Gl X x) (hm : X.mg x = some u) (h : Q u s)
    (hd : (x == ("__debug__" : Str)) = false := by decide) : wpAny (model X.prog X.w) X.A (eval (.Name x pos) X.env) Q E s :=
  Calls.Name_function_global I.ok.kind hg (Calls.loadGlobal_global (by rw [I.ok.glob]; exact I.mod.glob.keeps I.bk) hm h) hd
theorem ld_blt {E : Value → Shared → Prop} {pins : List (Addr × Obj)} {s : Shared} {σ : St} {H : Hp} {x : Str} {u : Value} {pos : Pos} {Q : Value → Shared → Prop} (I : Inv X pins σ H s) (hg : Gl X x) (hm : X.mg x = none) (hv : bootBuiltins x = some u) (h : Q u s)
    (hn : x ≠ "__name__" := by decide) (hd : (x == ("__debug__" : Str)) = false := by decide) : wpAny (model X.prog X.w) X.A (eval (.Name x pos) X.env) Q E s := by
  refine bg fun G' g' => ?_
  obtain ⟨mb, h1, h2⟩ := I.mod.blt
  refine g' ?_
  clear g' G'
  exact Calls.Name_function_global I.ok.kind hg (Calls.loadGlobal_builtin (by rw [I.ok.glob]; exact I.mod.glob.keeps I.bk) hm (by rw [I.ok.blt]; exact h1.keeps I.bk) ((h2 x hn).trans hv) h) hd
theorem pe_glob {x : Str} {v : V} {u : Value} {pos : Pos} (hg : Gl X x) (hm : X.mg x = some u) (r : RelV v u) (hd : (x == ("__debug__" : Str)) = false := by decide) : PE X (.Name x pos) (tC v) :=
  fun _ _ _ H _ I h => ld_glob I hg hm ⟨v, H, I, r, h⟩ hd

variable {a b : Expr} {ta tb : TE} {pos : Pos}

def PC (X : Cx) (op : CmpOp) (a b : Expr) (t : TE) : Prop :=
  ∀ (pins : List (Addr × Obj)) (s : Shared) (σ : St) (H : Hp) (Q : VK), Inv X pins σ H s → t σ H Q →
    wpAny (model X.prog X.w) X.A (eval a X.env) (fun v s₁ => wpAny (model X.prog X.w) X.A (eval b X.env) (fun u s₂ => wpAny (model X.prog X.w) X.A (compareOp op v u) (EP X pins σ Q) X.xe s₂) X.xe s₁) X.xe s
theorem nobehind (b : Expr) {op : CmpOp} (h : op ≠ .In) (h2 : op ≠ .NotIn) : behindInMarks op b = false := by
  have e1 : (op == CmpOp.In) = false := by cases op <;> first | rfl | exact absurd rfl h
  have e2 : (op == CmpOp.NotIn) = false := by cases op <;> first | rfl | exact absurd rfl h2
  cases b <;> simp [behindInMarks, e1, e2]
def tB (t : TE) : TT := fun σ H Q => t σ H fun x H1 => ∃ c, x = .bl c ∧ Q c H1
theorem pt_cmp {op : CmpOp} {t : TE} (h : PC X op a b t) (h1 : behindInMarks op b = false := by first | exact nobehind _ (by decide) (by decide) | rfl) : PT X (.Compare a [op] [b] pos) (tB t) := by
  intro pins s σ H Q I hw
  refine wpAny_isTrue_Compare1 (thn (h pins s σ H _ I hw) fun v s1 h1 => thn h1 fun u s2 h2 => thn h2 fun c s3 ⟨x, H1, I1, r1, q1⟩ => ?_) h1
  refine bg fun G' g' => ?_
  obtain ⟨d, rfl, q⟩ := q1
  refine g' ?_
  clear g' G'
  cases r1
  exact wpAny_truthy_bool ⟨H1, I1, q⟩
theorem pt_val {e : Expr} {t : TE} (h : PE X e t) (he : ∀ whole, isTrue e X.env whole = (do let v ← whole; standAt e.pos; holding [v] (truthy v)) := by intro _; rfl) : PT X e (tB t) := by
  intro pins s σ H Q I hw
  refine isTrue_plain (thn (h pins s σ H _ I hw) fun v s1 ⟨x, H1, I1, r1, q1⟩ => ?_) (he _)
  refine bg fun G' g' => ?_
  obtain ⟨d, rfl, q⟩ := q1
  refine g' ?_
  clear g' G'
  cases r1
  exact wpAny_truthy_bool ⟨H1, I1, q⟩

variable {tA tB' : TT} {rest : List Expr}
def tAnd (t u : TT) : TT := fun σ H Q => t σ H fun c H1 => if c = true then u σ H1 Q else Q false H1
def tOr (t u : TT) : TT := fun σ H Q => t σ H fun c H1 => if c = true then Q true H1 else u σ H1 Q
def tNot (t : TT) : TT := fun σ H Q => t σ H fun c H1 => Q (!c) H1
theorem pw_and1 (ha : PT X a tA) : PW X (.BoolOp .And [a] pos) tA := by
  intro wh pins s σ H Q I h
  refine isTrue_and (thn (ha pins s σ H Q I h) fun c s1 e => ?_)
  cases c with
  | true => exact isTrue_and_nil e
  | false => exact e
theorem pw_or1 (ha : PT X a tA) : PW X (.BoolOp .Or [a] pos) tA := by
  intro wh pins s σ H Q I h
  refine isTrue_or (thn (ha pins s σ H Q I h) fun c s1 e => ?_)
  cases c with
  | false => exact isTrue_or_nil e
  | true => exact e
theorem pw_and (ha : PT X a tA) (hb : PW X (.BoolOp .And (b :: rest) pos) tB') : PW X (.BoolOp .And (a :: b :: rest) pos) (tAnd tA tB') := by
  intro wh pins s σ H Q I h
  refine isTrue_and (thn (ha pins s σ H _ I h) fun c s1 ⟨H1, I1, q1⟩ => ?_)
  cases c with
  | true => exact hb wh pins s1 σ H1 Q I1 q1
  | false => exact ⟨H1, I1, q1⟩
theorem pw_or (ha : PT X a tA) (hb : PW X (.BoolOp .Or (b :: rest) pos) tB') : PW X (.BoolOp .Or (a :: b :: rest) pos) (tOr tA tB') := by
  intro wh pins s σ H Q I h
  refine isTrue_or (thn (ha pins s σ H _ I h) fun c s1 ⟨H1, I1, q1⟩ => ?_)
  cases c with
  | true => exact ⟨H1, I1, q1⟩
  | false => exact hb wh pins s1 σ H1 Q I1 q1
theorem pt_not (ha : PT X a tA) : PT X (.UnaryOp .Not a pos) (tNot tA) := by
  intro pins s σ H Q I h
  exact isTrue_not (ha pins s σ H (fun c H1 => Q (!c) H1) I h)
def tAndV (ta tb : TE) : TE := fun σ H Q => ta σ H fun x H1 => ∃ c, x = .bl c ∧ if c = true then tb σ H1 Q else Q (.bl false) H1
def tOrV (ta tb : TE) : TE := fun σ H Q => ta σ H fun x H1 => ∃ c, x = .bl c ∧ if c = true then Q (.bl true) H1 else tb σ H1 Q
theorem pe_one {op} {t : TE} (h : PE X a t) : PE X (.BoolOp op [a] pos) t := fun pins s σ H Q I hw => BoolOp_one (h pins s σ H Q I hw)
theorem pe_and (ha : PE X a ta) (hb : PE X (.BoolOp .And (b :: rest) pos) tb) : PE X (.BoolOp .And (a :: b :: rest) pos) (tAndV ta tb) := by
  intro pins s σ H Q I h
  refine BoolOp_and (thn (ha pins s σ H _ I h) fun v s1 ⟨x, H1, I1, r1, q1⟩ => ?_)
  refine bg fun G' g' => ?_
  obtain ⟨c, rfl, q1⟩ := q1
  refine g' ?_
  clear g' G'
  cases r1
  refine wpAny_truthy_bool ?_
  cases c with
  | true => exact hb pins s1 σ H1 Q I1 q1
  | false => exact ⟨.bl false, H1, I1, rfl, q1⟩
theorem pe_or (ha : PE X a ta) (hb : PE X (.BoolOp .Or (b :: rest) pos) tb) : PE X (.BoolOp .Or (a :: b :: rest) pos) (tOrV ta tb) := by
  intro pins s σ H Q I h
  refine BoolOp_or (thn (ha pins s σ H _ I h) fun v s1 ⟨x, H1, I1, r1, q1⟩ => ?_)
  refine bg fun G' g' => ?_
  obtain ⟨c, rfl, q1⟩ := q1
  refine g' ?_
  clear g' G'
  cases r1
  refine wpAny_truthy_bool ?_
  cases c with
  | false => exact hb pins s1 σ H1 Q I1 q1
  | true => exact ⟨.bl true, H1, I1, rfl, q1⟩
def tIf (t : TT) (ta tb : TE) : TE := fun σ H Q => t σ H fun c H1 => if c = true then ta σ H1 Q else tb σ H1 Q
theorem pe_ifExp {c : Expr} (hc : PT X c tA) (ha : PE X a ta) (hb : PE X b tb) : PE X (.IfExp c a b pos) (tIf tA ta tb) := by
  intro pins s σ H Q I h
  refine wpAny_IfExp (thn (hc pins s σ H _ I h) fun d s1 ⟨H1, I1, q1⟩ => ?_)
  cases d with
  | true => exact ha pins s1 σ H1 Q I1 q1
  | false => exact hb pins s1 σ H1 Q I1 q1
end
end L2

namespace L2
open PySem PySem.Spec PyProof.Rows

def SqL (K : PySem.W.Frag) (H : Hp) (a : Addr) (xs : List V) : Prop :=
  Rd H a (.lst xs) ∨
    ∃ (o : Obj) (its : Array Value) (n : Nat), K.lookup a = some o ∧ o.cls = .type "list" ∧ o.dict = none ∧ o.data = .seq its n ∧ its.size ≤ sizeLine ∧ Vals xs its.toList
def SqT (K : PySem.W.Frag) (H : Hp) (a : Addr) (xs : List V) : Prop :=
  Rd H a (.tup xs) ∨
    ∃ (o : Obj) (its : Array Value) (n : Nat), K.lookup a = some o ∧ o.cls = .type "tuple" ∧ o.data = .seq its n ∧ its.size ≤ sizeLine ∧ Vals xs its.toList
def absV : Value → Option V
  | .none => some .non
  | .bool b => some (.bl b)
  | .int i _ => some (.int i)
  | .str x _ => some (.str x)
  | .bytes b _ => some (.byt b)
  | .float b _ => some (.flt b)
  | .ref a => some (.ref a)
  | .type n => some (.ty n)
  | _ => none
theorem RelV.abs {x : V} {u : Value} (r : RelV x u) : absV u = some x := by
  cases x with
  | non => cases r; rfl
  | bl _ => cases r; rfl
  | int _ => obtain ⟨t, rfl⟩ := r; rfl
  | str _ => obtain ⟨t, rfl⟩ := r; rfl
  | byt _ => obtain ⟨t, rfl⟩ := r; rfl
  | flt _ => obtain ⟨t, rfl⟩ := r; rfl
  | ref _ => cases r; rfl
  | ty _ => cases r; rfl
theorem RelV.inj {x y : V} {u : Value} (r : RelV x u) (q : RelV y u) : x = y := Option.some.inj (r.abs.symm.trans q.abs)
theorem Vals.inj {xs ys : List V} {us : List Value} (h : Vals xs us) : Vals ys us → xs = ys := by
  induction h generalizing ys with
  | nil => intro h'; cases h'; rfl
  | cons r t ih =>
    intro h'
    cases h' with
    | cons r' t' => rw [r.inj r', ih t']
section
variable {X : Cx} {pins : List (Addr × Obj)} {σ : St} {H : Hp} {s : Shared} {a : Addr} {xs ys : List V}
theorem SqL.of {K : PySem.W.Frag} (h : H a = some (.lst xs)) : SqL K H a xs := .inl (.inl h)
theorem SqT.of {K : PySem.W.Frag} (h : H a = some (.tup xs)) : SqT K H a xs := .inl (.inl h)
theorem Inv.list (I : Inv X pins σ H s) (h : SqL X.K H a xs) : ∃ its : List Value, Vals xs its ∧ PlainL s.heap a its.toArray ∧ xs.length ≤ sizeLine := by
  rcases h with h | ⟨o, its, n, hk, hc, hd, hs, hz, r⟩
  · refine bg fun G' g' => ?_
    obtain ⟨z, its, n, r, e⟩ := h.ok I.hok
    refine g' ?_
    clear g' G'
    exact ⟨its, r, ⟨_, n, e, rfl, rfl, rfl⟩, z⟩
  · refine ⟨its.toList, r, ⟨o, n, I.kIn a o hk, hc, hd, by simpa using hs⟩, ?_⟩
    have e := r.length
    simp only [Array.length_toList] at e
    omega
theorem Inv.tuple (I : Inv X pins σ H s) (h : SqT X.K H a xs) : ∃ its : List Value, Vals xs its ∧ IsTup s.heap a its.toArray ∧ xs.length ≤ sizeLine := by
  rcases h with h | ⟨o, its, n, hk, hc, hs, hz, r⟩
  · refine bg fun G' g' => ?_
    obtain ⟨z, its, r, p⟩ := h.ok I.hok
    refine g' ?_
    clear g' G'
    exact ⟨its, r, p, z⟩
  · refine ⟨its.toList, r, ⟨o, I.kIn a o hk, hc, n, by simpa using hs⟩, ?_⟩
    have e := r.length
    simp only [Array.length_toList] at e
    omega
theorem Inv.list_inj (I : Inv X pins σ H s) (h : SqL X.K H a xs) (h' : SqL X.K H a ys) : xs = ys := by
  refine bg fun G' g' => ?_
  obtain ⟨its, r, ⟨o, n, e, _, _, d⟩, _⟩ := I.list h
  refine g' ?_
  clear g' G'
  refine bg fun G' g' => ?_
  obtain ⟨its', r', ⟨o', n', e', _, _, d'⟩, _⟩ := I.list h'
  refine g' ?_
  clear g' G'
  rw [e] at e'; cases e'
  rw [d] at d'
  injection d' with d1 _
  have : its = its' := by simpa using congrArg Array.toList d1
  subst this
  exact r.inj r'
end

abbrev Cx.wish (X : Cx) (E : Value → Shared → Prop) : Cx := { X with xe := E }
abbrev Cx.nox (X : Cx) : Cx := X.wish fun _ _ => False
theorem Cx.Ok.wish {X : Cx} (ok : X.Ok) (E : Value → Shared → Prop) : (X.wish E).Ok :=
  ⟨ok.mod, ok.kind, ok.glob, ok.blt, ok.above, ok.inj, ok.has, ok.cab, ok.hd, ok.frames, ok.stk, ok.exf, ok.bs, ok.bsz, ok.noex, ok.exfs, ok.funs, ok.frf⟩
theorem Cx.Ok.unwish {X : Cx} {E : Value → Shared → Prop} (ok : (X.wish E).Ok) : X.Ok :=
  ⟨ok.mod, ok.kind, ok.glob, ok.blt, ok.above, ok.inj, ok.has, ok.cab, ok.hd, ok.frames, ok.stk, ok.exf, ok.bs, ok.bsz, ok.noex, ok.exfs, ok.funs, ok.frf⟩
section
variable {X : Cx} {pins : List (Addr × Obj)} {σ : St} {H : Hp} {s : Shared} {E : Value → Shared → Prop}
theorem Inv.wish (I : Inv X pins σ H s) (E : Value → Shared → Prop) : Inv (X.wish E) pins σ H s := ⟨I.ok.wish E, I.os, I.bare, I.base, I.loc, I.cell, I.free, I.freeC, I.pin, I.hok, I.len⟩
theorem Inv.unwish (I : Inv (X.wish E) pins σ H s) : Inv X pins σ H s := ⟨I.ok.unwish, I.os, I.bare, I.base, I.loc, I.cell, I.free, I.freeC, I.pin, I.hok, I.len⟩
theorem SP.unwish {D : Ends} {f : Flow} {s' : Shared} (h : SP (X.wish E) pins D f s') : SP X pins D f s' := by
  cases f with
  | next => obtain ⟨σ', H', I, q⟩ := h; exact ⟨σ', H', I.unwish, q⟩
  | brk => obtain ⟨σ', H', I, q⟩ := h; exact ⟨σ', H', I.unwish, q⟩
  | cont => obtain ⟨σ', H', I, q⟩ := h; exact ⟨σ', H', I.unwish, q⟩
  | ret u => obtain ⟨v, σ', H', I, r, q⟩ := h; exact ⟨v, σ', H', I.unwish, r, q⟩
theorem PSs.nox {st : List Stmt} {t : TS} (h : PSs X.nox st t) : PSs X st t := fun pins s σ H D I hw =>
  wpAny_mono (h pins s σ H D (I.wish _) hw) (fun _ _ q => q.unwish) fun _ _ z => False.elim z
end

section
variable {X : Cx} {st : Stmt} {rest : List Stmt} {t u : TS} {e : Expr} {te : TE} {pos : Pos}
def tNext : TS := fun D σ H => D.nx σ H
def tSeq (t u : TS) : TS := fun D σ H => t { D with nx := u D } σ H
theorem pss_nil : PSs X [] tNext := fun _ _ σ H _ I h => wpAny_execs_nil ⟨σ, H, I, h⟩
theorem pss_cons (h1 : PS X st t) (h2 : PSs X rest u) : PSs X (st :: rest) (tSeq t u) := by
  intro pins s σ H D I h
  refine wpAny_execs_cons (thn (h1 pins s σ H { D with nx := u D } I h) fun f s1 q => ?_)
  cases f with
  | next =>
    refine bg fun G' g' => ?_
    obtain ⟨σ', H', I', q⟩ := q
    refine g' ?_
    clear g' G'
    exact h2 pins s1 σ' H' D I' q
  | ret v => exact q
  | brk => exact q
  | cont => exact q
theorem pss_one (h1 : PS X st t) : PSs X [st] t := by
  intro pins s σ H D I h
  refine wpAny_execs_cons (thn (h1 pins s σ H D I h) fun f s1 q => ?_)
  cases f with
  | next => exact wpAny_execs_nil q
  | ret v => exact q
  | brk => exact q
  | cont => exact q
theorem Inv.quiet {pins : List (Addr × Obj)} {σ : St} {H : Hp} {s : Shared} (I : Inv X pins σ H s) : interactive X.env = false := by simp [interactive, I.ok.kind]
def tDrop (te : TE) : TS := fun D σ H => te σ H fun _ H1 => D.nx σ H1
theorem ps_expr (he : PE X e te) (hs : swapsWith e none pos.line X.env = pure false := by rfl) : PS X (.Expr e pos) (tDrop te) := by
  intro pins s σ H D I h
  exact wpAny_Expr_any (thn (he pins s σ H _ I h) fun v s1 ⟨x, H1, I1, r1, q1⟩ => ⟨σ, H1, I1, q1⟩) I.quiet hs
def tRet (te : TE) : TS := fun D σ H => te σ H D.rt
theorem ps_ret (he : PE X e te) : PS X (.Return (some e) pos) (tRet te) := by
  intro pins s σ H D I h
  exact wpAny_Return_some (thn (he pins s σ H _ I h) fun v s1 ⟨x, H1, I1, r1, q1⟩ => ⟨x, σ, H1, I1, r1, q1⟩)
def tIfS (c : TT) (t u : TS) : TS := fun D σ H => c σ H fun b H1 => if b = true then t D σ H1 else u D σ H1
theorem ps_if {c : Expr} {a b : List Stmt} {tc : TT} (hc : PT X c tc) (ha : PSs X a t) (hb : PSs X b u) : PS X (.If c a b pos) (tIfS tc t u) := by
  intro pins s σ H D I h
  refine wpAny_If (thn (hc pins s σ H _ I h) fun d s1 ⟨H1, I1, q1⟩ => ?_)
  cases d with
  | true => exact ha pins s1 σ H1 D I1 q1
  | false => exact hb pins s1 σ H1 D I1 q1
end

abbrev TG := V → St → Hp → (St → Hp → Prop) → Prop
def PG (X : Cx) (target : Expr) (t : TG) : Prop :=
  ∀ (pins : List (Addr × Obj)) (s : Shared) (σ : St) (H : Hp) (v : V) (u : Value) (Q : St → Hp → Prop), Inv X pins σ H s → RelV v u → t v σ H Q →
    wpAny (model X.prog X.w) X.A (assign target X.env u) (fun _ s' => ∃ σ' H', Inv X pins σ' H' s' ∧ Q σ' H') X.xe s
abbrev TIp := V → V → Hp → VK → Prop
def PIp (X : Cx) (op : Operator) (t : TIp) : Prop :=
  ∀ (pins : List (Addr × Obj)) (s : Shared) (σ : St) (H : Hp) (x y : V) (v u : Value) (Q : VK), Inv X pins σ H s → RelV x v → RelV y u → t x y H Q →
    wpAny (model X.prog X.w) X.A (inplaceOp op v u) (EP X pins σ Q) X.xe s
section
variable {X : Cx} {pos : Pos}
def gName (i : Nat) : TG := fun v σ H Q => Q (σ.set i (some v)) H
theorem pg_name {i : Nat} {x : Str} (hN : X.N.Nodup) (hi : X.N[i]? = some x) (hx : Loc X.env.scope x) (hf : X.fn x = true ∨ X.env.scope.names.lookup x = some .local := by first | exact .inl rfl | exact .inr rfl | assumption) : PG X (.Name x pos) (gName i) := by
  intro pins s σ H v u Q I r h
  exact wpAny_assign_Name (store_ok I hN hi hx r (fun s' I' => ⟨_, H, I', h⟩) hf)
def tAsg (te : TE) (g : TG) : TS := fun D σ H => te σ H fun x H1 => g x σ H1 D.nx
theorem ps_set {i : Nat} {x : Str} {e : Expr} {te : TE} {pos' : Pos} (hN : X.N.Nodup) (hi : X.N[i]? = some x) (hx : Loc X.env.scope x) (he : PE X e te) (hs : swapsWith e (some (.Name x pos')) pos.line X.env = pure false := by rfl) (hf : X.fn x = true ∨ X.env.scope.names.lookup x = some .local := by first | exact .inl rfl | exact .inr rfl | assumption) :
    PS X (.Assign [.Name x pos'] e pos) (tAsg te (gName i)) := by
  intro pins s σ H D I h
  refine wpAny_Assign_Name (thn (he pins s σ H _ I h) fun v s1 ⟨y, H1, I1, r1, q1⟩ => ?_) hs
  exact store_ok I1 hN hi hx r1 (fun s2 I2 => ⟨_, H1, I2, q1⟩) hf
def tAug (i : Nat) (te : TE) (ti : TIp) : TS := fun D σ H => ∃ x, σ[i]? = some (some x) ∧ te σ H fun y H1 => ti x y H1 fun z H2 => D.nx (σ.set i (some z)) H2
theorem ps_aug {i : Nat} {x : Str} {e : Expr} {te : TE} {op : Operator} {ti : TIp} {pos' : Pos} (hN : X.N.Nodup) (hi : X.N[i]? = some x) (hx : Loc X.env.scope x) (he : PE X e te) (ho : PIp X op ti) (hf : X.fn x = true ∨ X.env.scope.names.lookup x = some .local := by first | exact .inl rfl | exact .inr rfl | assumption) :
    PS X (.AugAssign (.Name x pos') op e pos) (tAug i te ti) := by
  intro pins s σ H D I h
  refine bg fun G' g' => ?_
  obtain ⟨v, e1, h⟩ := h
  refine g' ?_
  clear g' G'
  refine bg fun G' g' => ?_
  obtain ⟨m, hn, hl⟩ := I.loc
  refine g' ?_
  clear g' G'
  have vis : Vis X.env.scope x := by rcases hx with k | k; exact .inl k; exact .inr (.inl k)
  refine bg fun G' g' => ?_
  obtain ⟨u, r, l⟩ := hl i x v hi e1 vis
  refine g' ?_
  clear g' G'
  refine wpAny_AugAssign_Name ?_
  have go : wpAny (model X.prog X.w) X.A (eval e X.env) (fun w s₂ => wpAny (model X.prog X.w) X.A (inplaceOp op u w) (fun r s₃ => wpAny (model X.prog X.w) X.A (storeName X.env x r) (fun _ => SP X pins D .next) X.xe s₃) X.xe s₂) X.xe s := by
    refine thn (he pins s σ H _ I h) fun w s1 ⟨y, H1, I1, r1, q1⟩ => ?_
    refine thn (ho pins s1 σ H1 v y u w _ I1 r r1 q1) fun z s2 ⟨zv, H2, I2, r2, q2⟩ => ?_
    exact store_ok I2 hN hi hx r2 (fun s3 I3 => ⟨_, H2, I3, q2⟩) hf
  rcases l with ⟨hk, hm⟩ | ⟨hk, c, hc, hcell⟩
  · exact wpAny_loadName_local I.ok.kind hk hn hm go
  · rcases hk with hk | hk
    · exact wpAny_loadName_cell I.ok.kind hk hc hcell go
    · rcases hx with k | k
      · have : X.env.scope.names.lookup x = some .free := hk
        rw [k] at this; cases this
      · have : X.env.scope.names.lookup x = some .free := hk
        rw [k] at this; cases this
end

section
variable {X : Cx} {pos : Pos}
def tWhile (c : TT) (tb : TS) : TS := fun D σ H => ∃ W : Nat → St → Hp → Prop, (∃ m, W m σ H) ∧ ∀ m σ H, W m σ H →
  c σ H fun b H1 => if b = true then ∃ N : St → Hp → Prop, (∀ σ' H', N σ' H' → ∃ m', m' < m ∧ W m' σ' H') ∧ tb { D with nx := N, ct := N, bk := D.nx } σ H1 else D.nx σ H1
theorem ps_while {c : Expr} {body : List Stmt} {tc : TT} {tb : TS} (hp : PassesOwn (model X.prog X.w) X.A X.env X.xe) (hc : PT X c tc) (hb : PSs X body tb) : PS X (.While c body [] pos) (tWhile tc tb) := by
  intro pins s σ H D I h
  refine bg fun G' g' => ?_
  obtain ⟨W, ⟨m0, w0⟩, turn⟩ := h
  refine g' ?_
  clear g' G'
  refine wpAny_While (codeAny_whileLoop (fun n s' => ∃ σ' H', Inv X pins σ' H' s' ∧ W n σ' H') ?_ m0 ⟨σ, H, I, w0⟩)
  intro n s1 h'
  refine bg fun G' g' => ?_
  obtain ⟨σ1, H1, I1, w1⟩ := h'
  refine g' ?_
  clear g' G'
  refine wpAny_passesOwn hp (thn (hc pins s1 σ1 H1 _ I1 (turn n σ1 H1 w1)) fun b s2 ⟨H2, I2, q2⟩ => ?_)
  cases b with
  | true =>
    refine bg fun G' g' => ?_
    obtain ⟨N, hN, q2⟩ := q2
    refine g' ?_
    clear g' G'
    rw [if_pos rfl]
    refine wpAny_passesOwn hp (thn (hb pins s2 σ1 H2 _ I2 q2) fun f s3 q3 => ?_)
    cases f with
    | next =>
      refine bg fun G' g' => ?_
      obtain ⟨σ3, H3, I3, n3⟩ := q3
      refine g' ?_
      clear g' G'
      refine bg fun G' g' => ?_
      obtain ⟨m', hm, w3⟩ := hN σ3 H3 n3
      refine g' ?_
      clear g' G'
      exact ⟨m', hm, σ3, H3, I3, w3⟩
    | cont =>
      refine bg fun G' g' => ?_
      obtain ⟨σ3, H3, I3, n3⟩ := q3
      refine g' ?_
      clear g' G'
      refine bg fun G' g' => ?_
      obtain ⟨m', hm, w3⟩ := hN σ3 H3 n3
      refine g' ?_
      clear g' G'
      exact ⟨m', hm, σ3, H3, I3, w3⟩
    | brk => exact q3
    | ret v => exact q3
  | false =>
    rw [if_neg Bool.false_ne_true]
    exact wpAny_execs_nil ⟨σ1, H2, I2, q2⟩
end

structure It where
  go : Nat → Hp → Prop
  yld : Nat → Hp → V → Hp → Prop
  stop : Nat → Hp → Prop
def FpOk (X : Cx) (pins : List (Addr × Obj)) (H : Hp) (b : Addr) : Prop :=
  H b = none ∧ b ≠ X.env.locals ∧ b ∉ X.fs ∧ (b ∈ X.ex ∨ X.s₀.heap.objs.size ≤ b) ∧ (∀ x c, X.env.cells.lookup x = some c → c ≠ b) ∧ ∀ p ∈ X.pn ++ pins, p.1 ≠ b
theorem Inv.fpOk {X : Cx} {pins : List (Addr × Obj)} {σ : St} {H H' : Hp} {s : Shared} {b : Addr} (I : Inv X pins σ H s) (hb : s.heap.objs.size ≤ b) (hn : H' b = none) : FpOk X pins H' b := by
  refine ⟨hn, Nat.ne_of_gt (Nat.lt_of_lt_of_le I.lt hb), I.nofs hb, .inr (Nat.le_trans I.sz hb), fun x c e z => ?_, fun p hp z => ?_⟩
  · obtain ⟨v, q⟩ := I.cell x c e
    exact absurd (Nat.lt_of_lt_of_le q.lt (by rw [z]; exact hb)) (Nat.lt_irrefl _)
  · exact absurd (Nat.lt_of_lt_of_le (Heap.lt_size (I.pin p hp).1) (by rw [z]; exact hb)) (Nat.lt_irrefl _)
structure Turn (P : Program) (w : World) (K : PySem.W.Frag) (tg : Expr) (J : It) (fp : List Addr) (it : Addr) (tn : Nat → Heap → Prop) : Prop where
  mem : it ∈ fp
  obj : ∀ i h, tn i h → ∀ b ∈ fp, ∃ o, h.get? b = some o ∧ ∀ v, o.data ≠ .cell v
  keep : ∀ i h h', tn i h → (∀ b ∈ fp, ∀ o, h.get? b = some o → h'.get? b = some o) → tn i h'
  item : ∀ (X : Cx), X.prog = P → X.w = w → X.K = K → X.calm = true → ∀ (i : Nat) (pins : List (Addr × Obj)) (s : Shared) (σ : St) (H : Hp) (E : Value → Shared → Prop), Inv X pins σ H s → (∀ b ∈ fp, FpOk X pins H b) → tn i s.heap → J.go i H →
    wpAny (model P w) X.A (pyNext (.ref it)) (fun r s1 => ∃ u, r = some u ∧
      wpAny (model P w) X.A (letOwnedTupleGo tg (.ref it) u) (fun _ s2 => ∃ x H', Inv X pins σ H' s2 ∧ RelV x u ∧ J.yld i H x H' ∧ tn (i + 1) s2.heap ∧ ∀ b ∈ fp, H' b = none) E s1) E s
  done : ∀ (X : Cx), X.prog = P → X.w = w → X.K = K → X.calm = true → ∀ (i : Nat) (pins : List (Addr × Obj)) (s : Shared) (σ : St) (H : Hp) (E : Value → Shared → Prop), Inv X pins σ H s → (∀ b ∈ fp, FpOk X pins H b) → tn i s.heap → J.stop i H →
    wpAny (model P w) X.A (pyNext (.ref it)) (fun r s1 => r = none ∧ Inv X pins σ H s1) E s
  self : ∀ (A : Around) (i : Nat) (s : Shared) (Q : Value → Shared → Prop) (E : Value → Shared → Prop), tn i s.heap → Q (.ref it) s → wpAny (model P w) A (pyIter (.ref it)) Q E s
abbrev TI := St → Hp → (It → Hp → Prop) → Prop
def PIE (X : Cx) (pins : List (Addr × Obj)) (σ : St) (tg : Expr) (R : It → Hp → Prop) (itv : Value) (s2 : Shared) : Prop :=
  ∃ (it : Addr) (fp : List Addr) (tn : Nat → Heap → Prop) (J : It) (H' : Hp), itv = .ref it ∧ Inv X pins σ H' s2 ∧ Turn X.prog X.w X.K tg J fp it tn ∧ tn 0 s2.heap ∧ (∀ b ∈ fp, FpOk X pins H' b) ∧ R J H'
def PI (X : Cx) (tg iter : Expr) (wi : TI) : Prop :=
  ∀ (pins : List (Addr × Obj)) (s : Shared) (σ : St) (H : Hp) (R : It → Hp → Prop), Inv X pins σ H s → wi σ H R →
    wpAny (model X.prog X.w) X.A (eval iter X.env) (fun v s1 => wpAny (model X.prog X.w) X.A (pyIter v) (PIE X pins σ tg R) X.xe s1) X.xe s

theorem go_of {M : Model} {A : Around} {E : Value → Shared → Prop} {s : Shared} {tg : Expr} {it : Addr} {u : Value} {o : Obj} {n : String} {vs : Array Value} {Q : Unit → Shared → Prop} (ho : s.heap.get? it = some o) (hc : o.cls = .type n) (hd : o.data = .fields vs)
    (hn : ["enumerate", "zip", "dict_itemiterator", "dict_reverseitemiterator", "odict_iterator", "itertools.zip_longest", "itertools.pairwise"].contains n = false) (hQ : Q () s) : wpAny M A (letOwnedTupleGo tg (.ref it) u) Q E s := by
  unfold letOwnedTupleGo
  cases tg <;> first
    | exact wpAny_pure hQ
    | (cases u <;> first
        | exact wpAny_pure hQ
        | (refine wpAny_bind (wpAny_load ho ?_)
           rw [hc, hd]
           show wpAny M A (if (["enumerate", "zip", "dict_itemiterator", "dict_reverseitemiterator", "odict_iterator", "itertools.zip_longest", "itertools.pairwise"].contains n && vs[0]? == some (rawInt _)) = true then _ else _) Q E s
           rw [if_neg (by intro h; rw [hn, Bool.false_and] at h; cases h)]
           exact wpAny_pure hQ))

def Itl (K : PySem.W.Frag) (a : Addr) : It :=
  ⟨fun i H => ∃ xs x, SqL K H a xs ∧ xs[i]? = some x, fun i H x H' => H' = H ∧ ∀ xs, SqL K H a xs → xs[i]? = some x, fun i H => ∃ xs, SqL K H a xs ∧ xs.length ≤ i⟩
def Itr (lo : Int) (n : Nat) : It := ⟨fun i _ => i < n, fun i H x H' => H' = H ∧ x = .int (lo + i), fun i _ => n ≤ i⟩
theorem turn_list {P : Program} {w : World} {K : PySem.W.Frag} {tg : Expr} (a it : Addr) : Turn P w K tg (Itl K a) [it] it (fun i h => h.IsListIter it a i) where
  mem := by simp
  obj := fun i h st b hb => by
    have e : b = it := by simpa using hb
    subst e
    refine bg fun G' g' => ?_
    obtain ⟨o, e, c, d⟩ := st
    refine g' ?_
    clear g' G'
    exact ⟨o, e, fun v z => by rw [d] at z; cases z⟩
  keep := fun i h h' st k => st.at fun o e => k it (by simp) o e
  item := by
    intro X hP hw hK hc i pins s σ H E I hf st hg
    subst hP hw hK
    refine bg fun G' g' => ?_
    obtain ⟨xs, x, hq, hx⟩ := hg
    refine g' ?_
    clear g' G'
    refine bg fun G' g' => ?_
    obtain ⟨its, rv, p, hz⟩ := I.list hq
    refine g' ?_
    clear g' G'
    refine bg fun G' g' => ?_
    obtain ⟨u, hu, ru⟩ := rv.get hx
    refine g' ?_
    clear g' G'
    refine bg fun G' g' => ?_
    obtain ⟨f0, f1, f2, f3, f4, f5⟩ := hf it (by simp)
    refine g' ?_
    clear g' G'
    refine wpAny_pyNext_list_item st p.isList (x := u) (by simpa using hu) fun h' st' sb => ?_
    have I1 : Inv X pins σ H { s with heap := h' } := I.turned (t' := s.toks) (fun b o hb e => (sb.2 b hb).trans e) f0 f1 f3 f4 f5
    refine bg fun G' g' => ?_
    obtain ⟨o, e, c, d⟩ := id st'
    refine g' ?_
    clear g' G'
    exact ⟨u, rfl, go_of (s := { s with heap := h' }) e c d (by decide) ⟨x, H, I1, ru, ⟨rfl, fun ys hy => by rw [I.list_inj hy hq]; exact hx⟩, st', fun b hb => (hf b hb).1⟩⟩
  done := by
    intro X hP hw hK hc i pins s σ H E I hf st hg
    subst hP hw hK
    refine bg fun G' g' => ?_
    obtain ⟨xs, hq, hx⟩ := hg
    refine g' ?_
    clear g' G'
    refine bg fun G' g' => ?_
    obtain ⟨its, rv, p, hz⟩ := I.list hq
    refine g' ?_
    clear g' G'
    refine bg fun G' g' => ?_
    obtain ⟨f0, f1, f2, f3, f4, f5⟩ := hf it (by simp)
    refine g' ?_
    clear g' G'
    have hl := rv.length
    exact wpAny_pyNext_list_end (I.ok.hd hc) st p.isList (by simp; omega) fun h' eb => ⟨rfl, I.turned (t' := s.toks) (fun b o hb e => eb b o hb e) f0 f1 f3 f4 f5⟩
  self := fun _ _ _ _ _ st h => wpAny_pyIter_listiter st h
theorem turn_range {P : Program} {w : World} {K : PySem.W.Frag} {tg : Expr} (it : Addr) (lo : Int) (n : Nat) : Turn P w K tg (Itr lo n) [it] it (fun i h => IsRangeIter h it (lo + (i : Nat) * 1) ((n : Int) - (i : Nat)) 1) where
  mem := by simp
  obj := fun i h st b hb => by
    have e : b = it := by simpa using hb
    subst e
    exact ⟨_, st, fun v z => by
      have z' : Data.fields _ = Data.cell v := z
      cases z'⟩
  keep := fun i h h' st k => k it (by simp) _ st
  item := by
    intro X hP hw hK hc i pins s σ H E I hf st hg
    subst hP hw hK
    refine bg fun G' g' => ?_
    obtain ⟨f0, f1, f2, f3, f4, f5⟩ := hf it (by simp)
    refine g' ?_
    clear g' G'
    have W := Walks.range (prog := X.prog) (w := X.w) (I.ok.hd hc) it lo 1 n
    refine W.item i s _ _ hg st fun v h' tk hv st' kk => ?_
    obtain ⟨t, rfl⟩ := hv
    have I1 : Inv X pins σ H { s with heap := h', toks := tk } := I.turned (fun b o hb e => kk b o (by simpa using hb) e) f0 f1 f3 f4 f5
    refine ⟨_, rfl, go_of (s := { s with heap := h', toks := tk }) (n := "range_iterator") st' rfl rfl (by decide) ⟨.int (lo + i), H, I1, ⟨t, ?_⟩, ⟨rfl, rfl⟩, st', fun b hb => (hf b hb).1⟩⟩
    rw [Int.mul_one]
  done := by
    intro X hP hw hK hc i pins s σ H E I hf st hg
    subst hP hw hK
    refine bg fun G' g' => ?_
    obtain ⟨f0, f1, f2, f3, f4, f5⟩ := hf it (by simp)
    refine g' ?_
    clear g' G'
    exact wpAny_pyNext_range_end (I.ok.hd hc) st (by have : n ≤ i := hg; omega) fun h' eb => ⟨rfl, I.turned (t' := s.toks) (fun b o hb e => eb b o hb e) f0 f1 f3 f4 f5⟩
  self := fun _ _ _ _ _ st h => wpAny_pyIter_rangeiter st h
end L2

namespace L2
open PySem PySem.Spec PyProof.Rows
section
variable {X : Cx} {tg : Expr}
def iList (K : PySem.W.Frag) (tl : TE) : TI := fun σ H R => tl σ H fun x H1 => ∃ a, x = .ref a ∧ (∃ xs, SqL K H1 a xs) ∧ R (Itl K a) H1
theorem pi_list {l : Expr} {tl : TE} (hl : PE X l tl) : PI X tg l (iList X.K tl) := by
  intro pins s σ H R I h
  refine thn (hl pins s σ H _ I h) fun v s1 ⟨x, H1, I1, r1, q1⟩ => ?_
  refine bg fun G' g' => ?_
  obtain ⟨a, e, ⟨xs, hq⟩, q⟩ := q1
  refine g' ?_
  clear g' G'
  subst e
  cases r1
  refine bg fun G' g' => ?_
  obtain ⟨its, rv, p, hz⟩ := I1.list hq
  refine g' ?_
  clear g' G'
  refine wpAny_pyIter_list p.isList ?_
  refine ⟨s1.heap.objs.size, [s1.heap.objs.size], _, _, H1, rfl, I1.kept (t' := s1.toks) fun b o e => Heap.get?_push_of_some _ e, turn_list a _, ⟨_, Heap.get?_push_size _ rfl, rfl, rfl⟩, fun b hb => ?_, q⟩
  have e : b = s1.heap.objs.size := by simpa using hb
  subst e
  exact I1.fpOk (Nat.le_refl _) (I1.hok.fresh (Nat.le_refl _))
theorem range_it {pins : List (Addr × Obj)} {σ : St} {H : Hp} {s : Shared} {R : It → Hp → Prop} {E : Value → Shared → Prop} {lo hi : Int} {t u v : Tok} {tk : Nat} (I : Inv X pins σ H s) (h1 : -(2 ^ 62) ≤ lo) (h2 : lo < 2 ^ 62) (h3 : -(2 ^ 62) ≤ hi) (h4 : hi < 2 ^ 62)
    (q : R (Itr lo (hi - lo).toNat) H) : wpAny (model X.prog X.w) X.A (pyIter (.ref s.heap.objs.size)) (PIE X pins σ tg R) E { s with heap := s.heap.push { cls := .type "range", data := .fields #[.int lo t, .int hi u, .int 1 v] }, toks := tk } := by
  refine wpAny_pyIter_range (IsRange.new ..) (small_one h1 h2 h3 h4) ?_
  have I1 : Inv X pins σ H { s with heap := s.heap.push { cls := .type "range", data := .fields #[.int lo t, .int hi u, .int 1 v] }, toks := tk } := I.kept fun b o e => Heap.get?_push_of_some _ e
  refine ⟨(s.heap.push { cls := .type "range", data := .fields #[.int lo t, .int hi u, .int 1 v] }).objs.size, [(s.heap.push { cls := .type "range", data := .fields #[.int lo t, .int hi u, .int 1 v] }).objs.size], _, _, H, rfl,
    I1.kept (t' := tk) fun b o e => Heap.get?_push_of_some _ e, turn_range _ lo (hi - lo).toNat, ?_, fun b hb => ?_, q⟩
  · have e1 : lo + ((0 : Nat) : Int) * 1 = lo := by simp
    have e2 : (((hi - lo).toNat : Nat) : Int) - ((0 : Nat) : Int) = Builtin.Range.rangeSize lo hi 1 := by rw [rangeSize_one]; split <;> omega
    show IsRangeIter _ _ (lo + ((0 : Nat) : Int) * 1) ((((hi - lo).toNat : Nat) : Int) - ((0 : Nat) : Int)) 1
    rw [e1, e2]
    exact Heap.get?_push_size _ rfl
  · have e : b = (s.heap.push { cls := .type "range", data := .fields #[.int lo t, .int hi u, .int 1 v] }).objs.size := by simpa using hb
    subst e
    exact I1.fpOk (Nat.le_refl _) (I1.hok.fresh (Nat.le_refl _))
def iRng1 (ta : TA) : TI := fun σ H R => ta σ H fun vs H1 => ∃ j : Int, vs = [.int j] ∧ -(2 ^ 62) ≤ j ∧ j < 2 ^ 62 ∧ R (Itr 0 j.toNat) H1
def iRng2 (ta : TA) : TI := fun σ H R => ta σ H fun vs H1 => ∃ i j : Int, vs = [.int i, .int j] ∧ (-(2 ^ 62) ≤ i ∧ i < 2 ^ 62 ∧ -(2 ^ 62) ≤ j ∧ j < 2 ^ 62) ∧ R (Itr i (j - i).toNat) H1
theorem pi_range1 {a : Expr} {ta : TA} {p pos : Pos} (hg : Gl X "range") (hm : X.mg "range" = none) (ha : PA X [a] ta) (hs : starEach [a] X.env = [(false, eval a X.env)] := by rfl) : PI X tg (.Call (.Name "range" p) [a] [] pos) (iRng1 ta) := by
  intro pins s σ H R I h
  refine Call_ (ld_blt I hg hm boot_range (PyProof.Rows.callWith_type1 (thn (ha pos pins s σ H _ I h) fun us s1 ⟨vs, H1, I1, r1, q1⟩ => ?_) hs rfl))
  refine bg fun G' g' => ?_
  obtain ⟨j, e, q1, q2, q⟩ := q1
  refine g' ?_
  clear g' G'
  subst e
  cases r1 with
  | cons r rr =>
    cases rr
    obtain ⟨t, rfl⟩ := r
    exact call_range_1 (range_it I1 (by omega) (by omega) q1 q2 (by simpa using q))
theorem pi_range2 {a b : Expr} {ta : TA} {p pos : Pos} (hg : Gl X "range") (hm : X.mg "range" = none) (ha : PA X [a, b] ta) (hs : starEach [a, b] X.env = [(false, eval a X.env), (false, eval b X.env)] := by rfl) (hs2 : starEach [b] X.env = [(false, eval b X.env)] := by rfl) :
    PI X tg (.Call (.Name "range" p) [a, b] [] pos) (iRng2 ta) := by
  intro pins s σ H R I h
  refine Call_ (ld_blt I hg hm boot_range (PyProof.Rows.callWith_type1 (thn (ha pos pins s σ H _ I h) fun us s1 ⟨vs, H1, I1, r1, q1⟩ => ?_) (by rw [hs, hs2]) (by rw [hs2]; rfl)))
  refine bg fun G' g' => ?_
  obtain ⟨i, j, e, ⟨q1, q2, q3, q4⟩, q⟩ := q1
  refine g' ?_
  clear g' G'
  subst e
  cases r1 with
  | cons r rr =>
    cases rr with
    | cons r' rr =>
      cases rr
      obtain ⟨t, rfl⟩ := r
      obtain ⟨t', rfl⟩ := r'
      exact call_range_2 (range_it I1 q1 q2 q3 q4 q)

def tFor (wi : TI) (g : TG) (tb : TS) : TS := fun D σ H => wi σ H fun J H1 => ∃ W : Nat → Nat → St → Hp → Prop, (∃ m, W 0 m σ H1) ∧ ∀ i m σ H, W i m σ H →
  (J.stop i H ∧ D.nx σ H) ∨ (J.go i H ∧ ∃ N : St → Hp → Prop, (∀ σ' H', N σ' H' → ∃ m', m' < m ∧ W (i + 1) m' σ' H') ∧ ∀ x H', J.yld i H x H' → g x σ H' fun σ2 H2 => tb { D with nx := N, ct := N, bk := D.nx } σ2 H2)
def pinsAt (fp : List Addr) (h : Heap) : List (Addr × Obj) := fp.filterMap fun b => (h.get? b).map fun o => (b, o)
theorem mem_pinsAt {fp : List Addr} {h : Heap} {b : Addr} {o : Obj} (hb : b ∈ fp) (e : h.get? b = some o) : (b, o) ∈ pinsAt fp h := List.mem_filterMap.mpr ⟨b, hb, by rw [e]; rfl⟩
theorem of_pinsAt {fp : List Addr} {h : Heap} {p : Addr × Obj} (hp : p ∈ pinsAt fp h) : p.1 ∈ fp ∧ h.get? p.1 = some p.2 := by
  refine bg fun G' g' => ?_
  obtain ⟨b, hb, e⟩ := List.mem_filterMap.mp hp
  refine g' ?_
  clear g' G'
  cases q : h.get? b with
  | none => rw [q] at e; cases e
  | some o =>
    rw [q] at e
    have e' : (b, o) = p := Option.some.inj e
    subst e'
    exact ⟨hb, q⟩
theorem Inv.pinned {pins : List (Addr × Obj)} {σ : St} {H : Hp} {s : Shared} {fp : List Addr} (I : Inv X pins σ H s) (hf : ∀ b ∈ fp, FpOk X pins H b) (ho : ∀ b ∈ fp, ∃ o, s.heap.get? b = some o ∧ ∀ v, o.data ≠ .cell v) : Inv X (pins ++ pinsAt fp s.heap) σ H s :=
  I.pins_of fun p hp => (List.mem_append.mp hp).elim (fun z => I.pin p (List.mem_append_right _ z)) fun z => by
    obtain ⟨hb, e⟩ := of_pinsAt z
    refine bg fun G' g' => ?_
    obtain ⟨f0, f1, f2, _⟩ := hf p.1 hb
    refine g' ?_
    clear g' G'
    refine bg fun G' g' => ?_
    obtain ⟨o, e', d⟩ := ho p.1 hb
    refine g' ?_
    clear g' G'
    rw [e] at e'; cases e'
    exact ⟨e, f0, f1, f2, d⟩
theorem Inv.unpinned {pins pl : List (Addr × Obj)} {σ : St} {H : Hp} {s : Shared} (I : Inv X (pins ++ pl) σ H s) : Inv X pins σ H s := I.pins_of fun p hp => I.pin p (List.mem_append_right _ (List.mem_append_left _ hp))
theorem ps_for {iter : Expr} {body : List Stmt} {wi : TI} {g : TG} {tb : TS} {pos : Pos} (hp : PassesOwn (model X.prog X.w) X.A X.env X.xe) (hc : X.calm = true) (hi : PI X tg iter wi) (hg : PG X tg g) (hb : PSs X body tb)
    (hs : ∀ x, foldedSetIterable iter X.env x = pure x := by intro _; rfl) : PS X (.For tg iter body [] pos) (tFor wi g tb) := by
  intro pins s σ H D I h
  refine wpAny_For (thn (hi pins s σ H _ I h) fun v s1 h1 => thn h1 fun itv s2 h2 => ?_) hs
  refine bg fun G' g' => ?_
  obtain ⟨it, fp, tn, J, H2, e, I2, T, st2, f2, W, ⟨m0, w0⟩, turn⟩ := h2
  refine g' ?_
  clear g' G'
  subst e
  -- what stays true of the iterator's objects through the loop
  have stat : ∀ {H' : Hp}, (∀ b ∈ fp, H' b = none) → ∀ b ∈ fp, FpOk X pins H' b := fun hn b hb => ⟨hn b hb, (f2 b hb).2⟩
  refine codeAny_forLoop_any (fun n s' => ∃ i σ' H', Inv X pins σ' H' s' ∧ tn i s'.heap ∧ (∀ b ∈ fp, H' b = none) ∧ W i n σ' H') ?_ m0 ⟨0, σ, H2, I2, st2, fun b hb => (f2 b hb).1, w0⟩
  intro n s3 h'
  refine bg fun G' g' => ?_
  obtain ⟨i, σ3, H3, I3, st3, fr3, w3⟩ := h'
  refine g' ?_
  clear g' G'
  rcases turn i n σ3 H3 w3 with ⟨stop, qn⟩ | ⟨go, N, hN, step⟩
  · refine wpAny_passesOwn hp (thn (T.done X rfl rfl rfl hc i pins s3 σ3 H3 X.xe I3 (stat fr3) st3 stop) fun r s4 ⟨hr, I4⟩ => ?_)
    subst hr
    exact wpAny_execs_nil ⟨σ3, H3, I4, qn⟩
  · refine wpAny_passesOwn hp (thn (T.item X rfl rfl rfl hc i pins s3 σ3 H3 X.xe I3 (stat fr3) st3 go) fun r s4 ⟨u, hr, h4⟩ => ?_)
    subst hr
    refine wpAny_passesOwn hp (thn h4 fun _ s5 ⟨x, H5, I5, r5, y5, st5, fr5⟩ => ?_)
    have I5' := I5.pinned (stat fr5) (T.obj _ _ st5)
    refine wpAny_passesOwn hp (thn (hg _ s5 σ3 H5 x u _ I5' r5 (step x H5 y5)) fun _ s6 ⟨σ6, H6, I6, q6⟩ => ?_)
    refine wpAny_passesOwn hp (thn (hb _ s6 σ6 H6 _ I6 q6) fun f s7 q7 => ?_)
    have again : ∀ {σ7 : St} {H7 : Hp}, Inv X (pins ++ pinsAt fp s5.heap) σ7 H7 s7 → N σ7 H7 → ∃ m, m < n ∧ ∃ i σ' H', Inv X pins σ' H' s7 ∧ tn i s7.heap ∧ (∀ b ∈ fp, H' b = none) ∧ W i m σ' H' := fun {σ7 H7} I7 n7 => by
      refine bg fun G' g' => ?_
      obtain ⟨m', hm, w7⟩ := hN σ7 H7 n7
      refine g' ?_
      clear g' G'
      refine ⟨m', hm, i + 1, σ7, H7, I7.unpinned, T.keep _ _ _ st5 fun b hb o e => (I7.pin (b, o) (List.mem_append_right _ (List.mem_append_right _ (mem_pinsAt hb e)))).1, fun b hb => ?_, w7⟩
      refine bg fun G' g' => ?_
      obtain ⟨o, e, d⟩ := T.obj _ _ st5 b hb
      refine g' ?_
      clear g' G'
      exact (I7.pin (b, o) (List.mem_append_right _ (List.mem_append_right _ (mem_pinsAt hb e)))).2.1
    cases f with
    | next => obtain ⟨σ7, H7, I7, n7⟩ := q7; exact again I7 n7
    | cont => obtain ⟨σ7, H7, I7, n7⟩ := q7; exact again I7 n7
    | brk => obtain ⟨σ7, H7, I7, q7⟩ := q7; exact ⟨σ7, H7, I7.unpinned, q7⟩
    | ret v => obtain ⟨x7, σ7, H7, I7, r7, q7⟩ := q7; exact ⟨x7, σ7, H7, I7.unpinned, r7, q7⟩
end

theorem for_list {K : PySem.W.Frag} {a : Addr} {xs : List V} {g : TG} {tb : TS} {D : Ends} {σ : St} {H : Hp} (Pv : Nat → St → Hp → Prop) (h0 : Pv 0 σ H) (hl : ∀ i σ H, i ≤ xs.length → Pv i σ H → SqL K H a xs)
    (hs : ∀ i x σ H, xs[i]? = some x → Pv i σ H → g x σ H fun σ2 H2 => tb { D with nx := Pv (i + 1), ct := Pv (i + 1), bk := D.nx } σ2 H2) (hd : ∀ σ H, Pv xs.length σ H → D.nx σ H) :
    ∃ W : Nat → Nat → St → Hp → Prop, (∃ m, W 0 m σ H) ∧ ∀ i m σ H, W i m σ H →
      ((Itl K a).stop i H ∧ D.nx σ H) ∨ ((Itl K a).go i H ∧ ∃ N : St → Hp → Prop, (∀ σ' H', N σ' H' → ∃ m', m' < m ∧ W (i + 1) m' σ' H') ∧ ∀ x H', (Itl K a).yld i H x H' → g x σ H' fun σ2 H2 => tb { D with nx := N, ct := N, bk := D.nx } σ2 H2) := by
  refine ⟨fun i m σ H => m = xs.length - i ∧ i ≤ xs.length ∧ Pv i σ H, ⟨xs.length, by simp, Nat.zero_le _, h0⟩, ?_⟩
  intro i m σ H h'
  refine bg fun G' g' => ?_
  obtain ⟨rfl, hi, p⟩ := h'
  refine g' ?_
  clear g' G'
  have q := hl i σ H hi p
  by_cases hlt : i < xs.length
  · refine .inr ⟨⟨xs, xs[i], q, by simp [hlt]⟩, Pv (i + 1), fun σ' H' p' => ⟨xs.length - (i + 1), by omega, rfl, hlt, p'⟩, fun x H' y => ?_⟩
    obtain ⟨e, y⟩ := y
    subst e
    exact hs i x σ _ (y xs q) p
  · have e : i = xs.length := by omega
    subst e
    exact .inl ⟨⟨xs, q, Nat.le_refl _⟩, hd σ H p⟩
theorem for_range {lo : Int} {n : Nat} {g : TG} {tb : TS} {D : Ends} {σ : St} {H : Hp} (Pv : Nat → St → Hp → Prop) (h0 : Pv 0 σ H)
    (hs : ∀ i σ H, i < n → Pv i σ H → g (.int (lo + i)) σ H fun σ2 H2 => tb { D with nx := Pv (i + 1), ct := Pv (i + 1), bk := D.nx } σ2 H2) (hd : ∀ σ H, Pv n σ H → D.nx σ H) :
    ∃ W : Nat → Nat → St → Hp → Prop, (∃ m, W 0 m σ H) ∧ ∀ i m σ H, W i m σ H →
      ((Itr lo n).stop i H ∧ D.nx σ H) ∨ ((Itr lo n).go i H ∧ ∃ N : St → Hp → Prop, (∀ σ' H', N σ' H' → ∃ m', m' < m ∧ W (i + 1) m' σ' H') ∧ ∀ x H', (Itr lo n).yld i H x H' → g x σ H' fun σ2 H2 => tb { D with nx := N, ct := N, bk := D.nx } σ2 H2) := by
  refine ⟨fun i m σ H => m = n - i ∧ i ≤ n ∧ Pv i σ H, ⟨n, by simp, Nat.zero_le _, h0⟩, ?_⟩
  intro i m σ H h'
  refine bg fun G' g' => ?_
  obtain ⟨rfl, hi, p⟩ := h'
  refine g' ?_
  clear g' G'
  by_cases hlt : i < n
  · refine .inr ⟨hlt, Pv (i + 1), fun σ' H' p' => ⟨n - (i + 1), by omega, rfl, hlt, p'⟩, fun x H' y => ?_⟩
    obtain ⟨e, y⟩ := y
    subst e y
    exact hs i σ _ hlt p
  · have e : i = n := by omega
    subst e
    exact .inl ⟨Nat.le_refl _, hd σ H p⟩
end L2

namespace L2
open PySem PySem.Spec PyProof.Rows

abbrev R2 := V → V → Hp → VK → Prop
def OpR (X : Cx) (f : Value → Value → Sem Value) (r : R2) : Prop :=
  ∀ (pins : List (Addr × Obj)) (s : Shared) (σ : St) (H : Hp) (x y : V) (v u : Value) (Q : VK), Inv X pins σ H s → RelV x v → RelV y u → r x y H Q →
    wpAny (model X.prog X.w) X.A (f v u) (EP X pins σ Q) X.xe s
def UnR (X : Cx) (f : Value → Sem Value) (r : V → Hp → VK → Prop) : Prop :=
  ∀ (pins : List (Addr × Obj)) (s : Shared) (σ : St) (H : Hp) (x : V) (v : Value) (Q : VK), Inv X pins σ H s → RelV x v → r x H Q →
    wpAny (model X.prog X.w) X.A (f v) (EP X pins σ Q) X.xe s
def CallR (X : Cx) (f : Value) (r : List V → Hp → VK → Prop) : Prop :=
  ∀ (pins : List (Addr × Obj)) (s : Shared) (σ : St) (H : Hp) (xs : List V) (us : List Value) (Q : VK), Inv X pins σ H s → Vals xs us → r xs H Q →
    wpAny (model X.prog X.w) X.A (call f us) (EP X pins σ Q) X.xe s

def tOp (r : R2) (ta tb : TE) : TE := fun σ H Q => ta σ H fun x H1 => tb σ H1 fun y H2 => r x y H2 Q
def tUn (r : V → Hp → VK → Prop) (ta : TE) : TE := fun σ H Q => ta σ H fun x H1 => r x H1 Q
inductive rI (C : Int → Int → Prop) (g : Int → Int → V) (x : V) (y : V) (H : Hp) (Q : VK) : Prop
  | mk (i : _) (j : _) (c_1 : x = .int i) (c_2 : y = .int j) (c_3 : C i j) (c_4 : Q (g i j) H)
inductive rI0 (g : Int → Int → V) (x : V) (y : V) (H : Hp) (Q : VK) : Prop
  | mk (i : _) (j : _) (c_1 : x = .int i) (c_2 : y = .int j) (c_3 : Q (g i j) H)
inductive rU (g : Int → V) (x : V) (H : Hp) (Q : VK) : Prop
  | mk (i : _) (c_1 : x = .int i) (c_2 : Q (g i) H)

section
variable {X : Cx} {a b c : Expr} {ta tb tc : TE} {pos : Pos}

theorem binT (ha : PE X a ta) (hb : PE X b tb) {pins : List (Addr × Obj)} {s : Shared} {σ : St} {H : Hp} {R : V → V → Hp → Prop} (I : Inv X pins σ H s)
    (h : ta σ H fun x H1 => tb σ H1 fun y H2 => R x y H2) {Q : Value → Shared → Prop} {f : Value → Value → Sem Value}
    (hf : ∀ v u s2 x y H2, Inv X pins σ H2 s2 → RelV x v → RelV y u → R x y H2 → wpAny (model X.prog X.w) X.A (f v u) Q X.xe s2) :
    wpAny (model X.prog X.w) X.A (eval a X.env) (fun v s₁ => wpAny (model X.prog X.w) X.A (eval b X.env) (fun u s₂ => wpAny (model X.prog X.w) X.A (f v u) Q X.xe s₂) X.xe s₁) X.xe s := by
  refine thn (ha pins s σ H _ I h) fun v s1 ⟨x, H1, I1, r1, q1⟩ => ?_
  refine thn (hb pins s1 σ H1 _ I1 q1) fun u s2 ⟨y, H2, I2, r2, q2⟩ => ?_
  exact hf v u s2 x y H2 I2 r1 r2 q2

theorem pe_op {op : Operator} {r : R2} (ho : OpR X (binaryOp op) r) (ha : PE X a ta) (hb : PE X b tb) : PE X (.BinOp a op b pos) (tOp r ta tb) := by
  intro pins s σ H Q I h
  exact wpAny_BinOp (binT ha hb I h fun v u s2 x y H2 I2 rx ry q => ho pins s2 σ H2 x y v u Q I2 rx ry q)
theorem pe_un {op : UnaryOp} {r : V → Hp → VK → Prop} (ho : UnR X (unaryOp op) r) (ha : PE X a ta) : PE X (.UnaryOp op a pos) (tUn r ta) := by
  intro pins s σ H Q I h
  exact UnaryOp_ (thn (ha pins s σ H _ I h) fun v s1 ⟨x, H1, I1, r1, q1⟩ => ho pins s1 σ H1 x v Q I1 r1 q1)

theorem opI {f : Value → Value → Sem Value} {C : Int → Int → Prop} {g : Int → Int → Int}
    (rule : ∀ (i j : Int) (t u : Tok) (s : Shared) (Q : Value → Shared → Prop) (E : Value → Shared → Prop), C i j → Q (.int (g i j) s.toks) { s with toks := s.toks + 1 } → wpAny (model X.prog X.w) X.A (f (.int i t) (.int j u)) Q E s) :
    OpR X f (rI C fun i j => .int (g i j)) := by
  intro pins s σ H x y v u Q I rx ry h
  refine bg fun G' g' => ?_
  obtain ⟨i, j, rfl, rfl, hc, q⟩ := h
  refine g' ?_
  clear g' G'
  obtain ⟨t, rfl⟩ := rx
  obtain ⟨t', rfl⟩ := ry
  exact rule i j t t' s _ _ hc ⟨.int (g i j), H, I.tok _, ⟨_, rfl⟩, q⟩
theorem opI0 {f : Value → Value → Sem Value} {g : Int → Int → Int}
    (rule : ∀ (i j : Int) (t u : Tok) (s : Shared) (Q : Value → Shared → Prop) (E : Value → Shared → Prop), Q (.int (g i j) s.toks) { s with toks := s.toks + 1 } → wpAny (model X.prog X.w) X.A (f (.int i t) (.int j u)) Q E s) :
    OpR X f (rI0 fun i j => .int (g i j)) := by
  intro pins s σ H x y v u Q I rx ry h
  refine bg fun G' g' => ?_
  obtain ⟨i, j, rfl, rfl, q⟩ := h
  refine g' ?_
  clear g' G'
  obtain ⟨t, rfl⟩ := rx
  obtain ⟨t', rfl⟩ := ry
  exact rule i j t t' s _ _ ⟨.int (g i j), H, I.tok _, ⟨_, rfl⟩, q⟩
theorem opB0 {f : Value → Value → Sem Value} {g : Int → Int → Bool}
    (rule : ∀ (i j : Int) (t u : Tok) (s : Shared) (Q : Value → Shared → Prop) (E : Value → Shared → Prop), Q (.bool (g i j)) s → wpAny (model X.prog X.w) X.A (f (.int i t) (.int j u)) Q E s) :
    OpR X f (rI0 fun i j => .bl (g i j)) := by
  intro pins s σ H x y v u Q I rx ry h
  refine bg fun G' g' => ?_
  obtain ⟨i, j, rfl, rfl, q⟩ := h
  refine g' ?_
  clear g' G'
  obtain ⟨t, rfl⟩ := rx
  obtain ⟨t', rfl⟩ := ry
  exact rule i j t t' s _ _ ⟨.bl (g i j), H, I, rfl, q⟩

def CDiv (i j : Int) : Prop := 0 < j ∧ j < 1073741824
def CMul (i j : Int) : Prop := (-(2 ^ 64) < i ∧ i < 2 ^ 64) ∨ (-(2 ^ 64) < j ∧ j < 2 ^ 64)
theorem CMul.ok {i j : Int} (h : CMul i j) : IntMulOk i j := by
  rcases h with ⟨h1, h2⟩ | ⟨h1, h2⟩
  · exact .of_left (intBits_le_64 h1 h2)
  · exact .of_right (intBits_le_64 h1 h2)
theorem two_pow_nn (k : Nat) : (0 : Int) ≤ 2 ^ k := by
  rw [two_pow_cast]
  exact Int.natCast_nonneg _

theorem op_add : OpR X (binaryOp .Add) (rI0 fun i j => .int (i + j)) := opI0 fun _ _ _ _ _ _ _ q => add_int q
theorem op_sub : OpR X (binaryOp .Sub) (rI0 fun i j => .int (i - j)) := opI0 fun _ _ _ _ _ _ _ q => sub_int q
theorem op_mul : OpR X (binaryOp .Mult) (rI CMul fun i j => .int (i * j)) := opI fun _ _ _ _ _ _ _ hc q => mul_int q hc.ok
theorem op_fdiv : OpR X (binaryOp .FloorDiv) (rI CDiv fun i j => .int (i / j)) := opI fun i j _ _ _ _ _ hc q => by
  have h1 : (0 : Int) < j := hc.1
  have h2 : j < 1073741824 := hc.2
  exact floordiv_int (by omega) (by rw [Int.fdiv_eq_ediv_of_nonneg i (by omega)]; exact q) (.inl (PyProof.noPylong_small (by omega)))
theorem op_mod : OpR X (binaryOp .Mod) (rI (fun _ j => 0 < j) fun i j => .int (i % j)) := opI fun i j _ _ _ _ _ hc q => by
  have h1 : (0 : Int) < j := hc
  exact mod_int' (by omega) (by rw [Int.fmod_eq_emod_of_nonneg i (by omega)]; exact q)
theorem op_shr : OpR X (binaryOp .RShift) (rI (fun _ j => 0 ≤ j) fun i j => .int (i / 2 ^ j.toNat)) := opI fun i j _ _ _ _ _ hc q =>
  rshift_int hc (by rw [Int.fdiv_eq_ediv_of_nonneg i (two_pow_nn _)]; exact q)

theorem iop_add : OpR X (inplaceOp .Add) (rI0 fun i j => .int (i + j)) := opI0 fun _ _ _ _ _ _ _ q => iadd_int q
theorem iop_sub : OpR X (inplaceOp .Sub) (rI0 fun i j => .int (i - j)) := opI0 fun _ _ _ _ _ _ _ q => isub_int q
theorem iop_fdiv : OpR X (inplaceOp .FloorDiv) (rI CDiv fun i j => .int (i / j)) := opI fun i j _ _ _ _ _ hc q => by
  have h1 : (0 : Int) < j := hc.1
  have h2 : j < 1073741824 := hc.2
  exact ifloordiv_int (by omega) (by rw [Int.fdiv_eq_ediv_of_nonneg i (by omega)]; exact q) (.inl (PyProof.noPylong_small (by omega)))

theorem unI {f : Value → Sem Value} {g : Int → Int}
    (rule : ∀ (i : Int) (t : Tok) (s : Shared) (Q : Value → Shared → Prop) (E : Value → Shared → Prop), Q (.int (g i) s.toks) { s with toks := s.toks + 1 } → wpAny (model X.prog X.w) X.A (f (.int i t)) Q E s) :
    UnR X f (rU fun i => .int (g i)) := by
  intro pins s σ H x v Q I rx h
  refine bg fun G' g' => ?_
  obtain ⟨i, rfl, q⟩ := h
  refine g' ?_
  clear g' G'
  obtain ⟨t, rfl⟩ := rx
  exact rule i t s _ _ ⟨.int (g i), H, I.tok _, ⟨_, rfl⟩, q⟩
theorem un_neg : UnR X (unaryOp .USub) (rU fun i => .int (-i)) := unI fun _ _ _ _ _ q => neg_int q

end

def scal : V → V → Bool
  | .non, .non => true | .non, .int _ => true | .int _, .non => true | .non, .bl _ => true | .bl _, .non => true | .non, .str _ => true | .str _, .non => true
  | .int _, .int _ => true | .bl _, .bl _ => true | .str _, .str _ => true | .byt _, .byt _ => true
  | .int _, .str _ => true | .str _, .int _ => true | .bl _, .str _ => true | .str _, .bl _ => true
  | _, _ => false
def rEq : R2 := fun x y H Q => scal x y = true ∧ Q (.bl (decide (x = y))) H
def rNe : R2 := fun x y H Q => scal x y = true ∧ Q (.bl (!decide (x = y))) H

theorem dec_int {i j : Int} : decide (V.int i = V.int j) = (i == j) := by
  rw [Bool.eq_iff_iff]
  simp
theorem dec_bl {i j : Bool} : decide (V.bl i = V.bl j) = (i == j) := by
  rw [Bool.eq_iff_iff]
  simp
theorem dec_str {i j : Str} : decide (V.str i = V.str j) = (i == j) := by
  rw [Bool.eq_iff_iff]
  simp
theorem dec_byt {i j : Array UInt8} : decide (V.byt i = V.byt j) = (i.toList == j.toList) := by
  rw [Bool.eq_iff_iff]
  cases i
  cases j
  simp

section
variable {X : Cx} {a b c : Expr} {ta tb tc : TE} {pos : Pos}
theorem fin_bl {pins : List (Addr × Obj)} {σ : St} {H : Hp} {s : Shared} {Q : VK} {k k' : Bool} (I : Inv X pins σ H s) (q : Q (.bl k) H) (e : k = k') : EP X pins σ Q (.bool k') s := by
  subst e
  exact ⟨.bl k, H, I, rfl, q⟩
theorem op_eq : OpR X (compareOp .Eq) rEq := by
  intro pins s σ H x y v u Q I rx ry h
  obtain ⟨hs, q⟩ := h
  cases x with
  | non =>
    cases rx
    cases y with
    | non => cases ry; exact PySem.EqNone.eq_none_none (fin_bl I q (by simp))
    | bl j => cases ry; exact PySem.EqNone.eq_none_bool (fin_bl I q (by simp))
    | int j => obtain ⟨t', rfl⟩ := ry; exact PySem.EqNone.eq_none_int (fin_bl I q (by simp))
    | str j => obtain ⟨t', rfl⟩ := ry; exact PySem.EqNone.eq_none_str (fin_bl I q (by simp))
    | _ => exact absurd (show false = true from hs) Bool.false_ne_true
  | bl i =>
    cases rx
    cases y with
    | non => cases ry; exact PySem.EqNone.eq_bool_none (fin_bl I q (by simp))
    | bl j => cases ry; exact eq_bool (fin_bl I q dec_bl)
    | str j => obtain ⟨t', rfl⟩ := ry; exact PySem.EqMixed.eq_bool_str (fin_bl I q (by simp))
    | _ => exact absurd (show false = true from hs) Bool.false_ne_true
  | int i =>
    obtain ⟨t, rfl⟩ := rx
    cases y with
    | non => cases ry; exact PySem.EqNone.eq_int_none (fin_bl I q (by simp))
    | int j => obtain ⟨t', rfl⟩ := ry; exact eq_int (fin_bl I q dec_int)
    | str j => obtain ⟨t', rfl⟩ := ry; exact PySem.EqMixed.eq_int_str (fin_bl I q (by simp))
    | _ => exact absurd (show false = true from hs) Bool.false_ne_true
  | str i =>
    obtain ⟨t, rfl⟩ := rx
    cases y with
    | non => cases ry; exact PySem.EqNone.eq_str_none (fin_bl I q (by simp))
    | bl j => cases ry; exact PySem.EqMixed.eq_str_bool (fin_bl I q (by simp))
    | int j => obtain ⟨t', rfl⟩ := ry; exact PySem.EqMixed.eq_str_int (fin_bl I q (by simp))
    | str j => obtain ⟨t', rfl⟩ := ry; exact eq_str (fin_bl I q dec_str)
    | _ => exact absurd (show false = true from hs) Bool.false_ne_true
  | byt i =>
    obtain ⟨t, rfl⟩ := rx
    cases y with
    | byt j => obtain ⟨t', rfl⟩ := ry; exact PySem.W.eq_bytes (fin_bl I q dec_byt)
    | _ => exact absurd (show false = true from hs) Bool.false_ne_true
  | _ => cases y <;> exact absurd (show false = true from hs) Bool.false_ne_true
theorem op_ne : OpR X (compareOp .NotEq) rNe := by
  intro pins s σ H x y v u Q I rx ry h
  obtain ⟨hs, q⟩ := h
  cases x with
  | non =>
    cases rx
    cases y with
    | non => cases ry; exact PySem.EqNone.ne_none_none (fin_bl I q (by simp))
    | bl j => cases ry; exact PySem.EqNone.ne_none_bool (fin_bl I q (by simp))
    | int j => obtain ⟨t', rfl⟩ := ry; exact PySem.EqNone.ne_none_int (fin_bl I q (by simp))
    | str j => obtain ⟨t', rfl⟩ := ry; exact PySem.EqNone.ne_none_str (fin_bl I q (by simp))
    | _ => exact absurd (show false = true from hs) Bool.false_ne_true
  | bl i =>
    cases rx
    cases y with
    | non => cases ry; exact PySem.EqNone.ne_bool_none (fin_bl I q (by simp))
    | bl j => cases ry; exact ne_bool (fin_bl I q (congrArg not dec_bl))
    | str j => obtain ⟨t', rfl⟩ := ry; exact PySem.EqMixed.ne_bool_str (fin_bl I q (by simp))
    | _ => exact absurd (show false = true from hs) Bool.false_ne_true
  | int i =>
    obtain ⟨t, rfl⟩ := rx
    cases y with
    | non => cases ry; exact PySem.EqNone.ne_int_none (fin_bl I q (by simp))
    | int j => obtain ⟨t', rfl⟩ := ry; exact ne_int (fin_bl I q (congrArg not dec_int))
    | str j => obtain ⟨t', rfl⟩ := ry; exact PySem.EqMixed.ne_int_str (fin_bl I q (by simp))
    | _ => exact absurd (show false = true from hs) Bool.false_ne_true
  | str i =>
    obtain ⟨t, rfl⟩ := rx
    cases y with
    | non => cases ry; exact PySem.EqNone.ne_str_none (fin_bl I q (by simp))
    | bl j => cases ry; exact PySem.EqMixed.ne_str_bool (fin_bl I q (by simp))
    | int j => obtain ⟨t', rfl⟩ := ry; exact PySem.EqMixed.ne_str_int (fin_bl I q (by simp))
    | str j => obtain ⟨t', rfl⟩ := ry; exact ne_str (fin_bl I q (congrArg not dec_str))
    | _ => exact absurd (show false = true from hs) Bool.false_ne_true
  | byt i =>
    obtain ⟨t, rfl⟩ := rx
    cases y with
    | byt j => obtain ⟨t', rfl⟩ := ry; exact PySem.W.ne_bytes (fin_bl I q (congrArg not dec_byt))
    | _ => exact absurd (show false = true from hs) Bool.false_ne_true
  | _ => cases y <;> exact absurd (show false = true from hs) Bool.false_ne_true

theorem op_lt : OpR X (compareOp .Lt) (rI0 fun i j => .bl (decide (i < j))) := opB0 fun _ _ _ _ _ _ _ q => lt_int q
theorem op_le : OpR X (compareOp .LtE) (rI0 fun i j => .bl (decide (i ≤ j))) := opB0 fun _ _ _ _ _ _ _ q => le_int q
theorem op_gt : OpR X (compareOp .Gt) (rI0 fun i j => .bl (decide (j < i))) := opB0 fun _ _ _ _ _ _ _ q => gt_int q
theorem op_ge : OpR X (compareOp .GtE) (rI0 fun i j => .bl (decide (j ≤ i))) := opB0 fun _ _ _ _ _ _ _ q => ge_int q

theorem op_isN : OpR X (compareOp .Is) (fun x y H Q => y = .non ∧ Q (.bl (decide (x = .non))) H) := by
  intro pins s σ H x y v u Q I rx ry h
  obtain ⟨rfl, q⟩ := h
  cases ry
  refine is_none_gen (fin_bl I q ?_)
  cases x <;> first
    | (cases rx; rfl)
    | (obtain ⟨t, rfl⟩ := rx; rfl)



theorem nomark (b : Expr) {op : CmpOp} (h : op ≠ .In := by decide) (h2 : op ≠ .NotIn := by decide) : behindInMarks op b = false := by
  have e1 : (op == CmpOp.In) = false := by cases op <;> first | rfl | exact absurd rfl h
  have e2 : (op == CmpOp.NotIn) = false := by cases op <;> first | rfl | exact absurd rfl h2
  cases b <;> simp [behindInMarks, e1, e2]
theorem pe_cmpR {op : CmpOp} {r : R2} (ho : OpR X (compareOp op) r) (ha : PE X a ta) (hb : PE X b tb) (hm : behindInMarks op b = false) : PE X (.Compare a [op] [b] pos) (tOp r ta tb) := by
  intro pins s σ H Q I h
  exact wpAny_Compare1 (binT ha hb I h fun v u s2 x y H2 I2 rx ry q => ho pins s2 σ H2 x y v u Q I2 rx ry q) hm
inductive isB (x : V) (H' : Hp) (Q : Bool → Hp → Prop) : Prop
  | mk (k : Bool) (c_1 : x = .bl k) (c_2 : Q k H')
def tTest (t : TE) : TT := fun σ H Q => t σ H fun x H' => isB x H' Q
theorem pt_cmpR {op : CmpOp} {r : R2} (ho : OpR X (compareOp op) r) (ha : PE X a ta) (hb : PE X b tb) (hm : behindInMarks op b = false) : PT X (.Compare a [op] [b] pos) (tTest (tOp r ta tb)) := by
  intro pins s σ H Q I h
  refine wpAny_isTrue_Compare1 (thn (ha pins s σ H _ I h) fun v s1 ⟨x, H1, I1, r1, q1⟩ => thn (hb pins s1 σ H1 _ I1 q1) fun u s2 ⟨y, H2, I2, r2, q2⟩ =>
    thn (ho pins s2 σ H2 x y v u _ I2 r1 r2 q2) fun c s3 ⟨z, H3, I3, r3, k, e, q3⟩ => ?_) hm
  subst e
  cases r3
  exact wpAny_truthy_bool ⟨H3, I3, q3⟩
def tChain (r r' : R2) (ta tb tc : TE) : TE := fun σ H Q => ta σ H fun x H1 => tb σ H1 fun y H2 => r x y H2 fun z H3 => ∃ k, z = .bl k ∧
  (if k = true then tc σ H3 fun w' H4 => r' y w' H4 Q else Q (.bl false) H3)
theorem pt_chain {op op' : CmpOp} {r r' : R2} (ho : OpR X (compareOp op) r) (ho' : OpR X (compareOp op') r') (ha : PE X a ta) (hb : PE X b tb) (hc : PE X c tc)
    (hm : lastMarks [op, op'] [b, c] = false := by with_unfolding_all rfl) : PT X (.Compare a [op, op'] [b, c] pos) (tTest (tChain r r' ta tb tc)) := by
  intro pins s σ H Q I h
  refine isTrue_chain (thn (ha pins s σ H _ I h) fun v s1 ⟨x, H1, I1, r1, q1⟩ => test_link (thn (hb pins s1 σ H1 _ I1 q1) fun u s2 ⟨y, H2, I2, r2, q2⟩ =>
    thn (ho pins s2 σ H2 x y v u _ I2 r1 r2 q2) fun d s3 ⟨z, H3, I3, r3, k, e, q3⟩ => ?_)) hm
  subst e
  cases r3
  refine wpAny_truthy_bool ?_
  cases k with
  | false =>
    refine bg fun G' g' => ?_
    obtain ⟨k', e', q'⟩ := q3
    refine g' ?_
    clear g' G'
    cases e'
    exact ite_ff ⟨H3, I3, q'⟩
  | true =>
    refine ite_tt (test_last (thn (hc pins s3 σ H3 _ I3 q3) fun w' s4 ⟨z', H4, I4, r4, q4⟩ => thn (ho' pins s4 σ H4 y z' u w' _ I4 r2 r4 q4) fun d' s5 ⟨z2, H5, I5, r5, k2, e2, q5⟩ => ?_))
    subst e2
    cases r5
    exact wpAny_truthy_bool ⟨H5, I5, q5⟩

theorem line63 : (sizeLine : Nat) < 2 ^ 63 := by rw [sizeLine_eq]; decide

theorem op_add_str : OpR X (binaryOp .Add) (fun x y H Q => ∃ i j, x = .str i ∧ y = .str j ∧ i.length + j.length ≤ sizeLine ∧ Q (.str (i ++ j)) H) := by
  intro pins s σ H x y v u Q I rx ry h
  refine bg fun G' g' => ?_
  obtain ⟨i, j, rfl, rfl, hz, q⟩ := h
  refine g' ?_
  clear g' G'
  obtain ⟨t, rfl⟩ := rx
  obtain ⟨t', rfl⟩ := ry
  exact add_str (fun t' tk => ⟨.str (i ++ j), H, I.tok _, ⟨_, rfl⟩, q⟩) hz


theorem vals1 {x : V} {us : List Value} (r : Vals [x] us) : ∃ u, us = [u] ∧ RelV x u := by
  cases r with
  | cons r1 r2 => cases r2; exact ⟨_, rfl, r1⟩
theorem vals2 {x y : V} {us : List Value} (r : Vals [x, y] us) : ∃ u w', us = [u, w'] ∧ RelV x u ∧ RelV y w' := by
  cases r with
  | cons r1 r2 =>
    cases r2 with
    | cons r3 r4 => cases r4; exact ⟨_, _, rfl, r1, r3⟩
theorem call_max2 (hc : X.calm = true) : CallR X (.builtin "max") (fun xs H Q => ∃ i j, xs = [.int i, .int j] ∧ Q (.int (if j > i then j else i)) H) := by
  intro pins s σ H xs us Q I r h
  refine bg fun G' g' => ?_
  obtain ⟨i, j, rfl, q⟩ := h
  refine g' ?_
  clear g' G'
  refine bg fun G' g' => ?_
  obtain ⟨u, w', rfl, ⟨t, rfl⟩, ⟨t', rfl⟩⟩ := vals2 r
  refine g' ?_
  clear g' G'
  refine max_two_ints (I.ok.hd hc) fun h' tk k => ⟨_, H, I.kept k, ?_, q⟩
  by_cases hj : j > i
  · rw [if_pos hj, if_pos hj]; exact ⟨_, rfl⟩
  · rw [if_neg hj, if_neg hj]; exact ⟨_, rfl⟩
theorem call_str_int : CallR X (.type "str") (fun xs H Q => ∃ i, xs = [.int i] ∧ i.natAbs.log2 < 1920 ∧ Q (.str (toString i)) H) := by
  intro pins s σ H xs us Q I r h
  refine bg fun G' g' => ?_
  obtain ⟨i, rfl, hz, q⟩ := h
  refine g' ?_
  clear g' G'
  refine bg fun G' g' => ?_
  obtain ⟨u, rfl, t, rfl⟩ := vals1 r
  refine g' ?_
  clear g' G'
  exact PySem.P.str_of_int hz ⟨.str _, H, I.tok _, ⟨_, rfl⟩, q⟩
theorem call_ord : CallR X (.builtin "ord") (fun xs H Q => ∃ x, xs = [.str x] ∧ x.length = 1 ∧ Q (.int (x.cps.getD 0 0 : Nat)) H) := by
  intro pins s σ H xs us Q I r h
  refine bg fun G' g' => ?_
  obtain ⟨x, rfl, hz, q⟩ := h
  refine g' ?_
  clear g' G'
  refine bg fun G' g' => ?_
  obtain ⟨u, rfl, t, rfl⟩ := vals1 r
  refine g' ?_
  clear g' G'
  exact ord_of_one hz ⟨.int _, H, I.tok _, ⟨_, rfl⟩, q⟩
end
end L2

namespace L2
open PySem PySem.Spec PyProof.Rows

structure ObjM (h : Heap) (x dx C : Addr) (mA : Str → Option Value) : Prop where
  obj : h.get? x = some (PySem.W.instObj C dx)
  ns : h.Ns1 dx mA
  ne : dx ≠ x

theorem lookIn_ns {h : Heap} {dx : Addr} {mA : Str → Option Value} (n : h.Ns1 dx mA) : ∃ od, h.get? dx = some od ∧ ∀ name, PySem.W.lookIn name od = some (mA name) := by
  refine bg fun G' g' => ?_
  obtain ⟨o, es, ep, ho, hd, hk, _, hm⟩ := n
  refine g' ?_
  clear g' G'
  refine ⟨o, ho, fun name => ?_⟩
  have e := hm name
  unfold nsFind findBy at e
  rw [← Array.find?_toList] at e
  unfold PySem.W.lookIn
  rw [hd]
  try dsimp only
  split
  · rename_i y q
    rw [q] at e
    exact congrArg some e
  · rename_i q
    rw [q] at e
    have a : es.toList.any (·.refKey) = false := by
      rw [List.any_eq_false]
      intro y hy
      refine bg fun G' g' => ?_
      obtain ⟨z, t, hkey⟩ := hk y (Array.mem_toList_iff.mp hy)
      refine g' ?_
      clear g' G'
      simp [DictEntry.refKey, hkey]
    have a' : ¬ es.toList.any (·.refKey) = true := by rw [a]; exact Bool.false_ne_true
    rw [if_neg a']
    exact congrArg some e

theorem ObjM.look {h : Heap} {x dx C : Addr} {mA : Str → Option Value} (I : ObjM h x dx C mA) : ∃ od, PySem.W.InstAt h x (PySem.W.instObj C dx) C (some od) ∧ ∀ name, PySem.W.lookIn name od = some (mA name) :=
  let ⟨od, ho, hl⟩ := lookIn_ns I.ns
  ⟨od, ⟨I.obj, rfl, rfl, ho⟩, hl⟩

section
variable {prog : Program} {w : World} {A : Around} {E : Value → Shared → Prop} {s : Shared} {K : PySem.W.Frag} {x dx C f : Addr} {mA : Str → Option Value} {name : Str} {v : Value}

theorem get_map {expr : Bool} {Q : Value → Shared → Prop} (X : K.In s.heap) (I : ObjM s.heap x dx C mA) (hg : PySem.W.plainGet K C name = true) (hh : PySem.W.hasDictIn K C = true)
    (ha : PySem.W.findIn K (.ref C) name = some none) (hv : mA name = some v) (hv' : PySem.W.handedIn v = true) (h : Q v { s with toks := s.toks + 1 }) :
    wpAny (model prog w) A (getAttr (.ref x) name expr) Q E s := by
  refine bg fun G' g' => ?_
  obtain ⟨od, J, hl⟩ := I.look
  refine g' ?_
  clear g' G'
  exact PySem.W.get_value X J (PySem.W.plainGet_of hg).1 (PySem.W.findObj_own hh ha rfl (by rw [hl, hv])) hv' h


theorem get_meth {pl : Sem Bool} {Q : Value × List Value → Shared → Prop} (X : K.In s.heap) (I : ObjM s.heap x dx C mA) (hg : PySem.W.plainGet K C name = true)
    (hf : PySem.W.findIn K (.ref C) name = some (some (.ref f))) (ht : PySem.W.isFn K (.ref f) = true) (hv : mA name = none) (h : Q (.ref f, [.ref x]) s) :
    wpAny (model prog w) A (getMethod (.ref x) name pl) Q E s := by
  refine bg fun G' g' => ?_
  obtain ⟨od, J, hl⟩ := I.look
  refine g' ?_
  clear g' G'
  exact PySem.W.method_fn X J (PySem.W.plainGet_of hg).1 (PySem.W.plainGet_of hg).2 hf (beq_iff_eq.mp ht) (by show (PySem.W.lookIn name od).map (·.isSome) = some false; rw [hl, hv]; rfl) h

theorem set_map {ns : List Str} {Q : Unit → Shared → Prop} (X : K.In s.heap) (I : ObjM s.heap x dx C mA)
    (hs : PySem.W.findIn K (.ref C) "__setattr__" = some (some (.builtin "object.__setattr__"))) (hp : PySem.W.plainOver K C = true) (ht : PySem.W.takerIn K C name = some none) (hh : PySem.W.hasDictIn K C = true)
    (hw : PySem.Within mA ns) (hsz : ns.length ≤ sizeLine)
    (h : ∀ h', ObjM h' x dx C (fun y => if y = name then some v else mA y) → Heap.SameBut dx s.heap h' → Q () { s with heap := h', toks := s.toks + 2 }) :
    wpAny (model prog w) A (setAttr (.ref x) name v) Q E s := by
  refine bg fun G' g' => ?_
  obtain ⟨od, J, hl⟩ := I.look
  refine g' ?_
  clear g' G'
  refine PySem.W.set_plain X J hs (PySem.W.osa_open (s := { s with toks := s.toks + 1 }) (r := none) X J hp ht fun b => ?_)
  refine bg fun G' g' => ?_
  obtain ⟨cd, hc, hd'⟩ := PySem.W.any_some hh
  refine g' ?_
  clear g' G'
  have hx : s.heap.get? x = some ⟨.ref C, some dx, .plain, #[]⟩ := I.obj
  refine wpAny_bind (wpAny_pure (wpAny_bind (wpAny_bind (wpAny_loadPart hx (wpAny_bind (PySem.W.Looks.here (s := { s with toks := s.toks + 1 }) (PySem.W.looks_clsIn X hc) ?_))))))
  rw [hd']
  refine wpAny_pure (a := some dx) (wpAny_bind (wpAny_pure (wpAny_bind ?_)))
  refine wpAny_nsSet1 (s := { s with toks := s.toks + 1 }) I.ns fun h' hn2 hs2 => ?_
  refine bg fun G' g' => ?_
  obtain ⟨oD, esD, epD, hoD, hdD, hcD⟩ := hn2.count (PySem.Within.cons name v hw)
  refine g' ?_
  clear g' G'
  refine wpAny_bind (wpAny_lookBehind hoD (by rw [hdD]; exact pastItsLine_dict (Nat.le_trans hcD (by rw [List.length_cons]; omega))) ?_)
  exact wpAny_pure (h _ ⟨(hs2.2 _ (Ne.symm I.ne)).trans I.obj, hn2, I.ne⟩ hs2)

theorem make_map {R : Result → Shared → Prop} {vs : List Value} {kw : List (Str × Value)} (X : K.In s.heap) (hm : PySem.W.makesIn K C = true)
    (hi : PySem.W.findIn K (.ref C) "__init__" = some (some (.ref f))) (hf : PySem.W.typeIn K (.ref f) = some (.type "function"))
    (h : codeAny (model prog w) (A.under (.builtin "type.__call__" ⟨.ref C :: vs, kw⟩)) (.call (.ref f) ⟨.ref (s.heap.objs.size + 1) :: vs, kw⟩) (PySem.W.InitBack (s.heap.objs.size + 1) R)
      { s with heap := (s.heap.push PySem.W.emptyDict).push (PySem.W.instObj C s.heap.objs.size) }) :
    codeAny (model prog w) A (.call (.ref C) ⟨vs, kw⟩) R s := by
  refine bg fun G' g' => ?_
  obtain ⟨hh, g, d, t, os⟩ := s
  refine g' ?_
  clear g' G'
  exact PySem.W.make_core (PySem.W.makes_of X hm) (PySem.W.looks_findIn X hi) (fun self => PySem.W.bind_fn X self hf) (.inl rfl) h
end

def putF (f : Str) (v : V) : List (Str × V) → List (Str × V)
  | [] => [(f, v)]
  | (g, x) :: r => if g = f then (g, v) :: r else (g, x) :: putF f v r
theorem lookup_putF (f g : Str) (v : V) : ∀ fs : List (Str × V), (putF f v fs).lookup g = if g = f then some v else fs.lookup g
  | [] => by
    show List.lookup g [(f, v)] = _
    by_cases h : g = f
    · have hb : (g == f) = true := beq_iff_eq.mpr h
      simp only [List.lookup, hb, if_pos h]
    · have hb : (g == f) = false := beq_eq_false_iff_ne.mpr h
      simp only [List.lookup, hb, if_neg h]
  | (k, x) :: r => by
    have ih := lookup_putF f g v r
    rw [show putF f v ((k, x) :: r) = (if k = f then (k, v) :: r else (k, x) :: putF f v r) from rfl]
    by_cases hk : k = f
    · rw [if_pos hk]
      by_cases h : g = k
      · have hb : (g == k) = true := beq_iff_eq.mpr h
        simp only [List.lookup, hb, if_pos (h.trans hk)]
      · have hb : (g == k) = false := beq_eq_false_iff_ne.mpr h
        simp only [List.lookup, hb, if_neg (fun e : g = f => h (e.trans hk.symm))]
    · rw [if_neg hk]
      by_cases h : g = k
      · have hb : (g == k) = true := beq_iff_eq.mpr h
        simp only [List.lookup, hb, if_neg (fun e : g = f => hk (h.symm.trans e))]
      · have hb : (g == k) = false := beq_eq_false_iff_ne.mpr h
        simp only [List.lookup, hb]
        exact ih
theorem keys_putF (f : Str) (v : V) : ∀ fs : List (Str × V), f ∈ (putF f v fs).map (·.1) ∧ ∀ g, g ∈ fs.map (·.1) → g ∈ (putF f v fs).map (·.1)
  | [] => ⟨by simp [putF], fun g h => by simp at h⟩
  | (k, x) :: r => by
    obtain ⟨i1, i2⟩ := keys_putF f v r
    rw [show putF f v ((k, x) :: r) = (if k = f then (k, v) :: r else (k, x) :: putF f v r) from rfl]
    by_cases hk : k = f
    · rw [if_pos hk]
      subst hk
      exact ⟨by simp, fun g h => by simpa using h⟩
    · rw [if_neg hk]
      refine ⟨?_, fun g h => ?_⟩
      · rw [List.map_cons]
        exact List.mem_cons_of_mem _ i1
      · rw [List.map_cons] at h ⊢
        rcases List.mem_cons.mp h with e | e
        · exact List.mem_cons.mpr (.inl e)
        · exact List.mem_cons_of_mem _ (i2 g e)
theorem length_putF (f : Str) (v : V) : ∀ fs : List (Str × V), (putF f v fs).length ≤ fs.length + 1
  | [] => by simp [putF]
  | (k, x) :: r => by
    have ih := length_putF f v r
    rw [show putF f v ((k, x) :: r) = (if k = f then (k, v) :: r else (k, x) :: putF f v r) from rfl]
    by_cases hk : k = f
    · rw [if_pos hk, List.length_cons, List.length_cons]; omega
    · rw [if_neg hk, List.length_cons, List.length_cons]; omega

theorem RelO.some_of {v : V} {o : Option Value} (r : RelO (some v) o) : ∃ u, o = some u ∧ RelV v u := by
  cases o with
  | none => exact (show False from r).elim
  | some u => exact ⟨u, rfl, r⟩
theorem RelO.none_of {o : Option Value} (r : RelO none o) : o = none := by
  cases o with
  | none => rfl
  | some u => exact (show False from r).elim
theorem handed_of {v : V} {u : Value} (r : RelV v u) : PySem.W.handedIn u = true := by
  cases v with
  | non => cases (show u = Value.none from r); rfl
  | bl b => cases (show u = Value.bool b from r); rfl
  | int i => obtain ⟨t, e⟩ := (show ∃ t, u = Value.int i t from r); cases e; rfl
  | str x => obtain ⟨t, e⟩ := (show ∃ t, u = Value.str x t from r); cases e; rfl
  | byt b => obtain ⟨t, e⟩ := (show ∃ t, u = Value.bytes b t from r); cases e; rfl
  | flt b => obtain ⟨t, e⟩ := (show ∃ t, u = Value.float b t from r); cases e; rfl
  | ref a => cases (show u = Value.ref a from r); rfl
  | ty n => cases (show u = Value.type n from r); rfl

section
variable {P : Program} {w : World} {H H' : Hp} {h h' : Heap} {a C dx : Addr} {fs fs' : List (Str × V)}
theorem ins_get (hok : HOk P w H h) (e : H a = some (.ins C dx fs)) : ∃ mA, ObjM h a dx C mA ∧ (∀ f, RelO (fs.lookup f) (mA f)) ∧ PySem.Within mA (fs.map (·.1)) ∧ fs.length ≤ 1000 ∧ H dx = some (.own a) := by
  refine bg fun G' g' => ?_
  obtain ⟨d, z, ne, ob, mA, n, r, q⟩ := (show ObjOk P w H h a (.ins C dx fs) from hok a _ e)
  refine g' ?_
  clear g' G'
  exact ⟨mA, ⟨ob, n, ne⟩, r, q, z, d⟩
end

structure Cls (K : PySem.W.Frag) (C : Addr) : Prop where
  pg : PySem.W.plainGet K C Str.empty = true
  hd : PySem.W.hasDictIn K C = true
  po : PySem.W.plainOver K C = true
  sa : PySem.W.findIn K (.ref C) "__setattr__" = some (some (.builtin "object.__setattr__"))
theorem Cls.get {K : PySem.W.Frag} {C : Addr} (c : Cls K C) (f : Str) : PySem.W.plainGet K C f = true := c.pg
def NoAttr (K : PySem.W.Frag) (C : Addr) (f : Str) : Prop := PySem.W.findIn K (.ref C) f = some none
theorem NoAttr.taker {K : PySem.W.Frag} {C : Addr} {f : Str} (n : NoAttr K C f) : PySem.W.takerIn K C f = some none := by
  unfold PySem.W.takerIn
  rw [show PySem.W.findIn K (.ref C) f = some none from n]
  rfl
structure Meth (K : PySem.W.Frag) (C : Addr) (m : Str) (f : Addr) : Prop where
  at_ : PySem.W.findIn K (.ref C) m = some (some (.ref f))
  fn : PySem.W.isFn K (.ref f) = true
  kp : PySem.W.keepIn K (.ref f) = true

section
variable {X : Cx} {pins : List (Addr × Obj)} {σ : St} {H : Hp} {s : Shared} {a C dx : Addr} {fs : List (Str × V)} {f : Str} {v : V} {A : Around} {E : Value → Shared → Prop}

theorem getattr_ok {b : Bool} {Q : Value → Shared → Prop} (I : Inv X pins σ H s) (e : H a = some (.ins C dx fs)) (c : Cls X.K C) (n : NoAttr X.K C f) (l : fs.lookup f = some v)
    (h : ∀ u s', Inv X pins σ H s' → RelV v u → Q u s') : wpAny (model X.prog X.w) A (getAttr (.ref a) f b) Q E s := by
  refine bg fun G' g' => ?_
  obtain ⟨mA, O, r, _, _, _⟩ := ins_get I.hok e
  refine g' ?_
  clear g' G'
  refine bg fun G' g' => ?_
  obtain ⟨u, hu, ru⟩ := RelO.some_of (v := v) (o := mA f) (by rw [← l]; exact r f)
  refine g' ?_
  clear g' G'
  exact get_map I.kIn O (c.get f) c.hd n hu (handed_of ru) (h u _ (I.tok _) ru)


theorem getmeth_ok {m : Str} {g : Addr} {pl : Sem Bool} {Q : Value × List Value → Shared → Prop} (I : Inv X pins σ H s) (e : H a = some (.ins C dx fs)) (c : Cls X.K C) (k : Meth X.K C m g) (l : fs.lookup m = none)
    (h : Q (.ref g, [.ref a]) s) : wpAny (model X.prog X.w) A (getMethod (.ref a) m pl) Q E s := by
  refine bg fun G' g' => ?_
  obtain ⟨mA, O, r, _, _, _⟩ := ins_get I.hok e
  refine g' ?_
  clear g' G'
  have hn : mA m = none := RelO.none_of (by rw [← l]; exact r m)
  exact get_meth I.kIn O (c.get m) k.at_ k.fn hn h

theorem setattr_ok {y : V} {u : Value} {Q : Unit → Shared → Prop} (I : Inv X pins σ H s) (e : H a = some (.ins C dx fs)) (c : Cls X.K C) (n : NoAttr X.K C f) (hl : fs.length < 1000) (ry : RelV y u)
    (h : ∀ s', Inv X pins σ (upd H a (.ins C dx (putF f y fs))) s' → Q () s') : wpAny (model X.prog X.w) A (setAttr (.ref a) f u) Q E s := by
  refine bg fun G' g' => ?_
  obtain ⟨mA, O, r, wi, _, ho⟩ := ins_get I.hok e
  refine g' ?_
  clear g' G'
  have hz : (fs.map (·.1)).length ≤ sizeLine := by rw [List.length_map, sizeLine_eq]; omega
  refine set_map I.kIn O c.sa c.po n.taker c.hd wi hz fun h' O' sb => h _ ?_
  have hd : ∃ o, h'.get? dx = some o := let ⟨o, _, _, e', _⟩ := O'.ns; ⟨o, e'⟩
  refine I.write (x := a) (e := dx) (by rw [e]; exact True.intro) (.inr ho) (fun b q hb z => (sb.2 b hb).trans z) hd ?_
  refine ⟨by rw [upd_ne O.ne]; exact ho, ?_, O.ne, O'.obj, _, O'.ns, fun g => ?_, fun g hg => ?_⟩
  · have := length_putF f y fs; (clear hd hz ho e; omega)
  · show RelO ((putF f y fs).lookup g) (if g = f then some u else mA g)
    rw [lookup_putF]
    by_cases q : g = f
    · rw [if_pos q, if_pos q]; exact ry
    · rw [if_neg q, if_neg q]; exact r g
  · by_cases q : g = f
    · rw [q]; exact (keys_putF f y fs).1
    · refine (keys_putF f y fs).2 g (wi g fun z => hg ?_)
      show (if g = f then some u else mA g) = none
      rw [if_neg q]; exact z

theorem Inv.made (I : Inv X pins σ H s) : Inv X pins σ (upd (upd H s.heap.objs.size (.own (s.heap.objs.size + 1))) (s.heap.objs.size + 1) (.ins C s.heap.objs.size []))
    { s with heap := (s.heap.push PySem.W.emptyDict).push (PySem.W.instObj C s.heap.objs.size) } := by
  have e1 : (s.heap.push PySem.W.emptyDict).get? s.heap.objs.size = some PySem.W.emptyDict := Heap.get?_push_size s.heap rfl
  have e2 : ((s.heap.push PySem.W.emptyDict).push (PySem.W.instObj C s.heap.objs.size)).get? (s.heap.objs.size + 1) = some (PySem.W.instObj C s.heap.objs.size) := by
    have := Heap.get?_push_size (s.heap.push PySem.W.emptyDict) (o := PySem.W.instObj C s.heap.objs.size) rfl
    rwa [Heap.size_push] at this
  have e3 : (s.heap.push PySem.W.emptyDict).Ns s.heap.objs.size (fun _ => none) := ⟨PySem.W.emptyDict, #[], _, e1, rfl, (fun e he => absurd he (by simp)), fun _ => rfl⟩
  have I1 := I.laid (a := s.heap.objs.size) (o := .own (s.heap.objs.size + 1)) (h' := s.heap.push PySem.W.emptyDict) (t' := s.toks) (fun b u q => Heap.get?_push_of_some _ q) (Nat.le_refl _) ⟨_, e1⟩
  refine I1.laid (a := s.heap.objs.size + 1) (o := .ins C s.heap.objs.size []) (t' := s.toks) (fun b u q => Heap.get?_push_of_some _ q) (Nat.le_of_eq (Heap.size_push _ _)) ?_
  have ne : s.heap.objs.size ≠ s.heap.objs.size + 1 := Nat.ne_of_lt (Nat.lt_succ_self _)
  refine ⟨by rw [upd_ne ne, upd_same], Nat.zero_le _, ne, e2, fun _ => none, (Heap.Ns1.of_empty e3).at fun o q => Heap.get?_push_of_some _ q, fun _ => True.intro, fun y hy => absurd rfl hy⟩

theorem attr_of {prog : Program} {w : World} {env : Env} {e : Expr} {f : Str} {pos : Pos} {s : Shared} {Q : Value → Shared → Prop} (hb : attributeBase e f env (eval e env) = eval e env)
    (h : wpAny (model prog w) A (eval e env) (fun o s₁ => wpAny (model prog w) A (getAttr o f true) Q E s₁) E s) : wpAny (model prog w) A (eval (.Attribute e f pos) env) Q E s :=
  Attribute_any_ h (by rw [arm_eval_Attribute, hb])
end

inductive tFldI (K : PySem.W.Frag) (f : Str) (x : V) (H1 : Hp) (Q : VK) : Prop
  | mk (a C dx : Addr) (fs : List (Str × V)) (v : V) (c_1 : x = .ref a) (c_2 : H1 a = some (.ins C dx fs)) (c_3 : Cls K C) (c_4 : NoAttr K C f) (c_5 : fs.lookup f = some v) (c_6 : Q v H1)
def tFld (K : PySem.W.Frag) (ta : TE) (f : Str) : TE := fun σ H Q => ta σ H fun x H1 => tFldI K f x H1 Q
inductive sFldI (K : PySem.W.Frag) (f : Str) (x : V) (H2 : Hp) (y : V) (k : Hp → Prop) : Prop
  | mk (a C dx : Addr) (fs : List (Str × V)) (c_1 : x = .ref a) (c_2 : H2 a = some (.ins C dx fs)) (c_3 : Cls K C) (c_4 : NoAttr K C f) (c_5 : fs.length < 1000) (c_6 : k (upd H2 a (.ins C dx (putF f y fs))))
def sFld (K : PySem.W.Frag) (ta tv : TE) (f : Str) : TS := fun D σ H => tv σ H fun y H1 => ta σ H1 fun x H2 => sFldI K f x H2 y (D.nx σ)
def InOp (X : Cx) (op : Operator) (rd : V → V → Hp → VK → Prop) : Prop :=
  ∀ (pins : List (Addr × Obj)) (s : Shared) (σ : St) (H : Hp) (x y : V) (u v : Value) (Q : VK), Inv X pins σ H s → RelV x u → RelV y v → rd x y H Q → wpAny (model X.prog X.w) X.A (inplaceOp op u v) (EP X pins σ Q) X.xe s
inductive sAugJ (a C : Addr) (f : Str) (z : V) (H3 : Hp) (k : Hp → Prop) : Prop
  | mk (dx' : Addr) (fs' : List (Str × V)) (c_1 : H3 a = some (.ins C dx' fs')) (c_2 : fs'.length < 1000) (c_3 : k (upd H3 a (.ins C dx' (putF f z fs'))))
inductive sAugI (K : PySem.W.Frag) (f : Str) (x : V) (H1 : Hp) (k : Addr → Addr → V → Prop) : Prop
  | mk (a C dx : Addr) (fs : List (Str × V)) (v : V) (c_1 : x = .ref a) (c_2 : H1 a = some (.ins C dx fs)) (c_3 : Cls K C) (c_4 : NoAttr K C f) (c_5 : fs.lookup f = some v) (c_6 : k a C v)
def sFldAug (K : PySem.W.Frag) (ta tv : TE) (rd : V → V → Hp → VK → Prop) (f : Str) : TS := fun D σ H => ta σ H fun x H1 => sAugI K f x H1 fun a C v => tv σ H1 fun y H2 => rd v y H2 fun z H3 => sAugJ a C f z H3 (D.nx σ)

section
variable {X : Cx} {o e value : Expr} {f : Str} {pos pos' tpos : Pos} {ta tv : TE}
theorem pe_fld (he : PE X e ta) (hb : attributeBase e f X.env (eval e X.env) = eval e X.env) : PE X (.Attribute e f pos) (tFld X.K ta f) := by
  intro pins s σ H Q I h
  refine attr_of hb (thn (he pins s σ H _ I h) fun u s1 ⟨x, H1, I1, rx, a, C, dx, fs, v, ex, ea, c, n, l, q⟩ => ?_)
  subst ex
  obtain rfl : u = Value.ref a := rx
  exact getattr_ok I1 ea c n l fun u' s2 I2 ru => ⟨v, H1, I2, ru, q⟩
theorem ps_fld (ha : PE X o ta) (hv : PE X value tv) (hs : swapsWith value (some (.Attribute o f pos')) pos.line X.env = pure false) : PS X (.Assign [.Attribute o f pos'] value pos) (sFld X.K ta tv f) := by
  intro pins s σ H D I h
  refine plainObj_wpAny_Assign_Attribute (thn (hv pins s σ H _ I h) fun u s1 ⟨y, H1, I1, ry, q⟩ => thn (ha pins s1 σ H1 _ I1 q) fun ov s2 ⟨x, H2, I2, rx, a, C, dx, fs, ex, ea, c, n, l, q2⟩ => ?_) hs
  subst ex
  obtain rfl : ov = Value.ref a := rx
  exact setattr_ok I2 ea c n l ry fun s3 I3 => ⟨σ, _, I3, q2⟩
theorem ps_fldaug {op : Operator} {rd : V → V → Hp → VK → Prop} (ha : PE X o ta) (hv : PE X value tv) (hop : InOp X op rd) : PS X (.AugAssign (.Attribute o f tpos) op value pos) (sFldAug X.K ta tv rd f) := by
  intro pins s σ H D I h
  refine wpAny_AugAssign_AttributeAny (thn (ha pins s σ H _ I h) fun ov s1 ⟨x, H1, I1, rx, a, C, dx, fs, v, ex, ea, c, n, l, q⟩ => ?_)
  subst ex
  obtain rfl : ov = Value.ref a := rx
  refine getattr_ok I1 ea c n l fun u s2 I2 ru => thn (hv pins s2 σ H1 _ I2 q) fun w3 s3 ⟨y, H2, I3, ry, q3⟩ => thn (hop pins s3 σ H2 v y u w3 _ I3 ru ry q3) fun w4 s4 ⟨z, H3, I4, rz, dx', fs', ea', l', q4⟩ => ?_
  exact setattr_ok I4 ea' c n l' rz fun s5 I5 => ⟨σ, _, I5, q4⟩
inductive rAdd (x : V) (y : V) (H : Hp) (Q : VK) : Prop
  | mk (i : _) (j : _) (c_1 : x = .int i) (c_2 : y = .int j) (c_3 : Q (.int (i + j)) H)
theorem in_add : InOp X .Add rAdd := by
  intro pins s σ H x y u v Q I rx ry h'
  refine bg fun G' g' => ?_
  obtain ⟨i, j, rfl, rfl, q⟩ := h'
  refine g' ?_
  clear g' G'
  obtain ⟨t, rfl⟩ := (show ∃ t, u = Value.int i t from rx)
  obtain ⟨t', rfl⟩ := (show ∃ t', v = Value.int j t' from ry)
  exact PyProof.Rows.iadd_int ⟨.int (i + j), H, I.tok _, ⟨_, rfl⟩, q⟩

theorem methcall_of {pl : Sem Bool} {m : Str} {apos : Pos} {args : List Expr} {pins : List (Addr × Obj)} {s : Shared} {σ : St} {H : Hp} {Q : Value → Shared → Prop} {te : TE} (he : PE X e te) (I : Inv X pins σ H s)
    (h : te σ H fun x H1 => ∃ a C dx fs g, x = .ref a ∧ H1 a = some (.ins C dx fs) ∧ Cls X.K C ∧ Meth X.K C m g ∧ fs.lookup m = none ∧
      ∀ s1, Inv X pins σ H1 s1 → wpAny (model X.prog X.w) X.A (callWith pos (.ref g) [.ref a] (backTo pos (starEach args X.env)) (backToKw pos (keywordEach [] X.env))) Q X.xe s1)
    (ht : eval (.Call (.Attribute e m apos) args [] pos) X.env = (do
      let ov ← eval e X.env
      standAt apos.atName
      let (f, first) ← holding [ov] (getMethod ov m pl)
      callWith pos f first (backTo pos (starEach args X.env)) (backToKw pos (keywordEach [] X.env)))) :
    wpAny (model X.prog X.w) X.A (eval (.Call (.Attribute e m apos) args [] pos) X.env) Q X.xe s := by
  refine PySem.W.methodCall_KW (pl := pl) (thn (he pins s σ H _ I h) fun u s1 ⟨x, H1, I1, rx, a, C, dx, fs, g, ex, ea, c, k, l, q⟩ => ?_) ht
  subst ex
  obtain rfl : u = Value.ref a := rx
  exact getmeth_ok I1 ea c k l (q s1 I1)
end

section
variable {X : Cx} {pins : List (Addr × Obj)} {σ : St} {H : Hp} {s : Shared} {A : Around} {E : Value → Shared → Prop} {Q : Value → Shared → Prop} {c : Value} {b : Bool}
end
end L2

namespace L2
open PySem PySem.Spec PyProof.Rows

structure Room (k : Nat) (A : Around) : Prop where
  hd : A.handled = none
  dp : A.depth + 3 * k + 5 < recursionLimit
  un : A.units + 16 * k + 200 < cLine
theorem Room.mono {j k : Nat} {A : Around} (r : Room k A) (h : j ≤ k) : Room j A := ⟨r.hd, by have := r.dp; omega, by have := r.un; omega⟩
theorem Room.deeper {k : Nat} {A : Around} (r : Room (k + 1) A) (env : Env) : Room k (A.deeper env) :=
  ⟨r.hd, by have := r.dp; show A.depth + 1 + 3 * k + 5 < _; omega, by have := r.un; show A.units + 3 + 16 * k + 200 < _; omega⟩
theorem make_depth {A : Around} {C : Addr} {us : List Value} {kw : List (Str × Value)} : (A.under (.builtin "type.__call__" ⟨.ref C :: us, kw⟩)).depth = A.depth + 1 := by
  first | rfl | simp [Around.under, Code.weight, Code.isCreation, Code.isGuard, Code.isCaller, Code.frames, Code.isFrame, guardIds]
theorem make_units {A : Around} {C : Addr} {us : List Value} {kw : List (Str × Value)} : (A.under (.builtin "type.__call__" ⟨.ref C :: us, kw⟩)).units = A.units + 1 := by
  first | rfl | simp [Around.under, Code.cUnits, Code.frames, Code.isFrame]
theorem Room.make {k : Nat} {A : Around} (r : Room (k + 1) A) (C : Addr) (us : List Value) (kw : List (Str × Value)) : Room k (A.under (.builtin "type.__call__" ⟨.ref C :: us, kw⟩)) :=
  ⟨r.hd, by have := r.dp; rw [make_depth]; omega, by have := r.un; rw [make_units]; omega⟩
theorem Room.depth {k : Nat} {A : Around} (r : Room k A) : A.depth < recursionLimit := by have := r.dp; omega
theorem Room.units {k : Nat} {A : Around} (r : Room k A) : A.units + 64 < cLine := by have := r.un; omega

def tNil : TA := fun _ H Q => Q [] H
def tCons (ta : TE) (tr : TA) : TA := fun σ H Q => ta σ H fun x H1 => tr σ H1 fun xs H2 => Q (x :: xs) H2
section
variable {X : Cx} {e : Expr} {es : List Expr} {te : TE} {t : TA} {pos : Pos}
theorem pa_nil : PA X [] tNil := fun _ _ _ _ H Q I h => Calls.spliced_nil ⟨[], H, I, .nil, h⟩
theorem pa_cons (ha : PE X e te) (hr : PA X es t) (hs : starEach (e :: es) X.env = (false, eval e X.env) :: starEach es X.env := by rfl) : PA X (e :: es) (tCons te t) := by
  intro pos pins s σ H Q I h
  rw [hs]
  show wpAny _ _ (spliced ((false, eval e X.env) :: backTo pos (starEach es X.env))) _ _ s
  refine Calls.spliced_cons (thn (ha pins s σ H _ I h) fun u s1 ⟨x, H1, I1, r1, q1⟩ => ?_)
  exact thn (hr pos pins s1 σ H1 _ I1 q1) fun us s2 ⟨xs, H2, I2, r2, q2⟩ => ⟨x :: xs, H2, I2, .cons r1 r2, q2⟩

def tTup (t : TA) : TE := fun σ H Q => t σ H fun xs H1 => xs.length ≤ sizeLine ∧ ∀ p, H1 p = none → Q (.ref p) (upd H1 p (.tup xs))
def tLst (t : TA) : TE := fun σ H Q => t σ H fun xs H1 => xs.length ≤ sizeLine ∧ ∀ p, H1 p = none → Q (.ref p) (upd H1 p (.lst xs))
theorem pe_tup {x1} (h : PA X es t) : PE X (.Tuple es x1 pos) (tTup t) := by
  intro pins s σ H Q I hq
  refine wpAny_Tuple_spliced (thn (h pos pins s σ H _ I hq) fun us s1 ⟨xs, H1, I1, r, z, q⟩ => ⟨by rw [← r.length]; exact z, ?_⟩)
  have hf : H1 s1.heap.objs.size = none := I1.hok.fresh (Nat.le_refl _)
  refine ⟨.ref s1.heap.objs.size, upd H1 s1.heap.objs.size (.tup xs), I1.laid (t' := s1.toks) (fun b u e => Heap.get?_push_of_some _ e) (Nat.le_refl _) ?_, rfl, q _ hf⟩
  exact ⟨z, us, r, ⟨_, Heap.get?_push_size _ rfl, rfl, _, rfl⟩⟩
theorem pe_lst (h : PA X es t) : PE X (.List es pos) (tLst t) := by
  intro pins s σ H Q I hq
  refine wpAny_List_spliced (thn (h pos pins s σ H _ I hq) fun us s1 ⟨xs, H1, I1, r, z, q⟩ => ⟨by rw [← r.length]; exact z, ?_⟩)
  have hf : H1 s1.heap.objs.size = none := I1.hok.fresh (Nat.le_refl _)
  refine ⟨.ref s1.heap.objs.size, upd H1 s1.heap.objs.size (.lst xs), I1.laid (t' := s1.toks) (fun b u e => Heap.get?_push_of_some _ e) (Nat.le_refl _) ?_, rfl, q _ hf⟩
  exact ⟨z, us, 0, r, Heap.get?_push_size _ rfl⟩
end

abbrev Sp := List V → Hp → VK → XK → Prop
abbrev CXT := List Env → Hp → Shared → XK → Value → Shared → Prop

structure Env0 (P : Program) (w : World) (K : PySem.W.Frag) (mg : Str → Option Value) (base : Heap) (A : Around) (outer : List Env) (s : Shared) (H : Hp) : Prop where
  frames : A.frames = some outer
  mod : Mod K mg base
  bs : ∀ b o, base.get? b = some o → s.heap.get? b = some o ∧ H b = none
  bsz : base.objs.size ≤ s.heap.objs.size
  funs : s.heap.FunFrames base outer
  frf : ∀ b ∈ frs outer, H b = none
  hok : HOk P w H s.heap
  bare : AllBare s.gens
def CE (outer : List Env) (P : Program) (w : World) (H : Hp) (s : Shared) (Q : VK) (u : Value) (s' : Shared) : Prop :=
  ∃ v H', s'.os = s.os ∧ AllBare s'.gens ∧ Un (frs outer) [] H H' s.heap s'.heap ∧ HOk P w H' s'.heap ∧ RelV v u ∧ Q v H'
def CR (CX : CXT) (outer : List Env) (P : Program) (w : World) (H : Hp) (s : Shared) (Q : VK) (E : XK) (r : Result) (s' : Shared) : Prop :=
  match r with
  | .ok (.ret u) => CE outer P w H s Q u s'
  | .ok _ => False
  | .error e => CX outer H s E e s'
structure FnOk (P : Program) (w : World) (K : PySem.W.Frag) (mg : Str → Option Value) (base : Heap) (CX : CXT) (k : Nat) (f : Addr) (fd : FuncData) (ps : List Str) (sp : Sp) : Prop where
  len : ∀ vs H Q E, sp vs H Q E → vs.length = ps.length
  run : ∀ (A : Around) (outer : List Env) (s : Shared) (H : Hp) (args : Args) (us : List Value) (vs : List V) (Q : VK) (E : XK), Room k A → Env0 P w K mg base A outer s H → BindsTo s fd args (ps.zip us) → Vals vs us → sp vs H Q E →
    codeAny (model P w) A (.call (.ref f) args) (CR CX outer P w H s Q E) s

theorem Env0.make {P : Program} {w : World} {K : PySem.W.Frag} {mg : Str → Option Value} {base : Heap} {A : Around} {outer : List Env} {s : Shared} {H : Hp} (e : Env0 P w K mg base A outer s H) (C : Addr) (us : List Value) (kw : List (Str × Value)) :
    Env0 P w K mg base (A.under (.builtin "type.__call__" ⟨.ref C :: us, kw⟩)) outer s H := ⟨by first | exact e.frames | (simpa [Around.under, Code.envs, Code.isFrame, pushEnvs] using e.frames), e.mod, e.bs, e.bsz, e.funs, e.frf, e.hok, e.bare⟩

section
variable {X : Cx} {pins : List (Addr × Obj)} {σ : St} {H : Hp} {s s' : Shared}
theorem Inv.env0 (I : Inv X pins σ H s) : Env0 X.prog X.w X.K X.mg X.base X.A X.stack s H :=
  ⟨I.ok.frames, I.ok.mod, I.bs, Nat.le_trans I.ok.bsz I.sz, I.stack, I.stkFree, I.hok, I.bare⟩
theorem Inv.after {Q : VK} {u : Value} (I : Inv X pins σ H s) (h : CE X.stack X.prog X.w H s Q u s') : EP X pins σ Q u s' := by
  refine bg fun G' g' => ?_
  obtain ⟨v, H', os, bare, un, hok, r, q⟩ := h
  refine g' ?_
  clear g' G'
  refine bg fun G' g' => ?_
  obtain ⟨hh, g, d, t, os'⟩ := s'
  refine g' ?_
  clear g' G'
  obtain rfl : os' = s.os := os
  exact ⟨v, H', I.call (h' := hh) (g' := g) (d' := d) (t' := t) (ch := []) un hok bare (fun b z => absurd z (by simp)), r, q⟩
end

def tCall (sp : Sp) (dvs : List V) (E : XK) (t : TA) : TE := fun σ H Q => t σ H fun vs H1 => sp (vs ++ dvs) H1 Q E
inductive tMethI (C : Addr) (m : Str) (x : V) (H1 : Hp) (k : Prop) : Prop
  | mk (a dx : Addr) (fs : List (Str × V)) (c_1 : x = .ref a) (c_2 : H1 a = some (.ins C dx fs)) (c_3 : fs.lookup m = none) (c_4 : k)
def tMeth (C : Addr) (m : Str) (sp : Sp) (dvs : List V) (E : XK) (ta : TE) (t : TA) : TE := fun σ H Q => ta σ H fun x H1 => tMethI C m x H1 (t σ H1 fun vs H2 => sp (x :: (vs ++ dvs)) H2 Q E)
def tMake (C : Addr) (sp : Sp) (dvs : List V) (E : XK) (t : TA) : TE := fun σ H Q => t σ H fun vs H1 => ∀ x dx, H1 x = none → H1 dx = none → dx ≠ x →
  sp (.ref x :: (vs ++ dvs)) (upd (upd H1 dx (.own x)) x (.ins C dx [])) (fun v H2 => v = .non ∧ Q (.ref x) H2) E

def Binds (K : PySem.W.Frag) (fd : FuncData) (ps : List Str) (ds : List Value) : Prop :=
  ∀ (s : Shared) (us : List Value), K.In s.heap → (us ++ ds).length = ps.length → BindsTo s fd ⟨us, []⟩ (ps.zip (us ++ ds))
theorem Binds.all {K : PySem.W.Frag} {fd : FuncData} {ps : List Str} (h : ∀ us : List Value, us.length = ps.length → bindArgs fd ⟨us, []⟩ = pure (ps.zip us)) : Binds K fd ps [] := fun s us _ hl => by
  rw [List.append_nil] at hl ⊢
  exact .of_eq (h us hl)

def Passes (CX : CXT) (X : Cx) (E : XK) : Prop := ∀ (pins : List (Addr × Obj)) (σ : St) (H : Hp) (s : Shared) (e : Value) (s' : Shared), Inv X pins σ H s → CX X.stack H s E e s' → X.xe e s'

section
variable {X : Cx} {CX : CXT} {k : Nat} {f C : Addr} {fd : FuncData} {ps : List Str} {sp : Sp} {dvs : List V} {ds : List Value} {E : XK} {x m : Str} {p pos apos : Pos} {e o : Expr} {es : List Expr} {ta : TE} {t : TA}

theorem run_fn {pins : List (Addr × Obj)} {σ : St} {H : Hp} {s : Shared} {Q : VK} {us : List Value} {vs : List V} (F : FnOk X.prog X.w X.K X.mg X.base CX k f fd ps sp) (hr : Room k X.A) (hb : Binds X.K fd ps ds) (hd : Vals dvs ds) (hx : Passes CX X E)
    (I : Inv X pins σ H s) (r : Vals vs us) (h : sp (vs ++ dvs) H Q E) : wpAny (model X.prog X.w) X.A (call (.ref f) us) (EP X pins σ Q) X.xe s := by
  have r2 : Vals (vs ++ dvs) (us ++ ds) := r.append hd
  have hl : (us ++ ds).length = ps.length := by rw [← r2.length]; exact F.len _ _ _ _ h
  refine wpAny_call (codeAny_mono (F.run X.A X.stack s H ⟨us, []⟩ (us ++ ds) (vs ++ dvs) Q E hr I.env0 (hb s us I.kIn hl) r2 h) fun r s' hq => ?_)
  cases r with
  | error e => exact hx pins σ H s e s' I hq
  | ok fl =>
    cases fl with
    | ret u => exact I.after hq
    | next => exact False.elim hq
    | brk => exact False.elim hq
    | cont => exact False.elim hq

theorem pe_call (F : FnOk X.prog X.w X.K X.mg X.base CX k f fd ps sp) (hr : Room k X.A) (hg : Gl X x) (hm : X.mg x = some (.ref f)) (hk : PySem.W.keepIn X.K (.ref f) = true) (hb : Binds X.K fd ps ds) (hd : Vals dvs ds) (hx : Passes CX X E)
    (ha : PA X (e :: es) t) (hdb : (x == ("__debug__" : Str)) = false := by decide) (he : starEach (e :: es) X.env = (false, eval e X.env) :: starEach es X.env := by rfl) (hpl : (backTo pos (starEach es X.env)).any (·.1) = false := by rfl) :
    PE X (.Call (.Name x p) (e :: es) [] pos) (tCall sp dvs E t) := by
  intro pins s σ H Q I h
  refine wpAny_Call_Name_kw (ld_glob I hg hm ?_ hdb)
  refine PySem.W.callWith_K (h₀ := X.base) I.ok.mod.kin hk (thn (ha pos pins s σ H _ I h) fun us s1 ⟨vs, H1, I1, r, q⟩ => ⟨I1.kIn, ?_⟩) he hpl
  exact run_fn F hr hb hd hx I1 r q

theorem pe_meth {pl : Sem Bool} (he : PE X o ta) (c : Cls X.K C) (hm : Meth X.K C m f) (F : FnOk X.prog X.w X.K X.mg X.base CX k f fd ps sp) (hr : Room k X.A) (hb : Binds X.K fd ps ds) (hd : Vals dvs ds) (hx : Passes CX X E) (ha : PA X (e :: es) t)
    (hst : starEach (e :: es) X.env = (false, eval e X.env) :: starEach es X.env := by rfl) (hpl : (backTo pos (starEach es X.env)).any (·.1) = false := by rfl)
    (ht : eval (.Call (.Attribute o m apos) (e :: es) [] pos) X.env = (do
      let ov ← eval o X.env
      standAt apos.atName
      let (f, first) ← holding [ov] (getMethod ov m pl)
      callWith pos f first (backTo pos (starEach (e :: es) X.env)) (backToKw pos (keywordEach [] X.env))) := by rfl) :
    PE X (.Call (.Attribute o m apos) (e :: es) [] pos) (tMeth C m sp dvs E ta t) := by
  intro pins s σ H Q I h
  refine PySem.W.methodCall_KW (pl := pl) (thn (he pins s σ H _ I h) fun u s1 ⟨x, H1, I1, rx, a, dx, fs, ex, ea, l, q⟩ => ?_) ht
  subst ex
  obtain rfl : u = Value.ref a := rx
  refine getmeth_ok I1 ea c hm l ?_
  refine PySem.W.callWith_K (first := [.ref a]) (h₀ := X.base) I.ok.mod.kin hm.kp (thn (ha pos pins s1 σ H1 _ I1 q) fun us s2 ⟨vs, H2, I2, r, q2⟩ => ⟨I2.kIn, ?_⟩) hst hpl
  exact run_fn (us := .ref a :: us) (vs := .ref a :: vs) F hr hb hd hx I2 (.cons rfl r) q2
theorem pe_meth0 {pl : Sem Bool} (he : PE X o ta) (c : Cls X.K C) (hm : Meth X.K C m f) (F : FnOk X.prog X.w X.K X.mg X.base CX k f fd ps sp) (hr : Room k X.A) (hb : Binds X.K fd ps ds) (hd : Vals dvs ds) (hx : Passes CX X E)
    (ht : eval (.Call (.Attribute o m apos) [] [] pos) X.env = (do
      let ov ← eval o X.env
      standAt apos.atName
      let (f, first) ← holding [ov] (getMethod ov m pl)
      callWith pos f first (backTo pos (starEach [] X.env)) (backToKw pos (keywordEach [] X.env))) := by rfl) :
    PE X (.Call (.Attribute o m apos) [] [] pos) (tMeth C m sp dvs E ta tNil) := by
  intro pins s σ H Q I h
  refine PySem.W.methodCall_KW (pl := pl) (thn (he pins s σ H _ I h) fun u s1 ⟨x, H1, I1, rx, a, dx, fs, ex, ea, l, q⟩ => ?_) ht
  subst ex
  obtain rfl : u = Value.ref a := rx
  refine getmeth_ok I1 ea c hm l ?_
  exact PySem.W.callWith_K0 (first := [.ref a]) I1.kIn hm.kp (run_fn (us := [.ref a]) (vs := [.ref a]) F hr hb hd hx I1 (.cons rfl .nil) q)

structure Mk (K : PySem.W.Frag) (C f : Addr) : Prop where
  makes : PySem.W.makesIn K C = true
  init : PySem.W.findIn K (.ref C) "__init__" = some (some (.ref f))
  fn : PySem.W.isFn K (.ref f) = true
  kp : PySem.W.keepIn K (.ref C) = true

theorem run_make {pins : List (Addr × Obj)} {σ : St} {H : Hp} {s : Shared} {Q : VK} {us : List Value} {vs : List V} (M : Mk X.K C f) (F : FnOk X.prog X.w X.K X.mg X.base CX k f fd ps sp) (hr : Room (k + 1) X.A) (hb : Binds X.K fd ps ds) (hd : Vals dvs ds)
    (hx : Passes CX X E) (I : Inv X pins σ H s) (r : Vals vs us)
    (h : ∀ x dx, H x = none → H dx = none → dx ≠ x → sp (.ref x :: (vs ++ dvs)) (upd (upd H dx (.own x)) x (.ins C dx [])) (fun v H2 => v = .non ∧ Q (.ref x) H2) E) :
    wpAny (model X.prog X.w) X.A (call (.ref C) us) (EP X pins σ Q) X.xe s := by
  have hq := h (s.heap.objs.size + 1) s.heap.objs.size (I.hok.fresh (Nat.le_succ _)) (I.hok.fresh (Nat.le_refl _)) (Nat.ne_of_lt (Nat.lt_succ_self _))
  have I2 := Inv.made (C := C) I
  have r2 : Vals (V.ref (s.heap.objs.size + 1) :: (vs ++ dvs)) (Value.ref (s.heap.objs.size + 1) :: (us ++ ds)) := .cons rfl (r.append hd)
  have hl : (Value.ref (s.heap.objs.size + 1) :: us ++ ds).length = ps.length := by
    have e := r2.length
    rw [F.len _ _ _ _ hq] at e
    exact e.symm
  refine wpAny_call (make_map (f := f) I.kIn M.makes M.init (beq_iff_eq.mp M.fn) (codeAny_mono (F.run _ X.stack _ _ ⟨Value.ref (s.heap.objs.size + 1) :: us, []⟩ (Value.ref (s.heap.objs.size + 1) :: (us ++ ds)) _ _ E (hr.make C us [])
    (I2.env0.make C us []) (hb _ (Value.ref (s.heap.objs.size + 1) :: us) I2.kIn hl) r2 hq) fun r s' hq' => ?_))
  cases r with
  | error e => exact hx pins σ _ _ e s' I2 hq'
  | ok fl =>
    cases fl with
    | ret u =>
      refine bg fun G' g' => ?_
      obtain ⟨v, H', I3, rv, ev, q3⟩ := I2.after hq'
      refine g' ?_
      clear g' G'
      subst ev
      exact ⟨rv, ⟨V.ref (s.heap.objs.size + 1), H', I3, rfl, q3⟩⟩
    | next => exact False.elim hq'
    | brk => exact False.elim hq'
    | cont => exact False.elim hq'
theorem pe_make (M : Mk X.K C f) (F : FnOk X.prog X.w X.K X.mg X.base CX k f fd ps sp) (hr : Room (k + 1) X.A) (hg : Gl X x) (hm : X.mg x = some (.ref C)) (hb : Binds X.K fd ps ds) (hd : Vals dvs ds) (hx : Passes CX X E)
    (ha : PA X (e :: es) t) (hdb : (x == ("__debug__" : Str)) = false := by decide) (he : starEach (e :: es) X.env = (false, eval e X.env) :: starEach es X.env := by rfl) (hpl : (backTo pos (starEach es X.env)).any (·.1) = false := by rfl) :
    PE X (.Call (.Name x p) (e :: es) [] pos) (tMake C sp dvs E t) := by
  intro pins s σ H Q I h
  refine wpAny_Call_Name_kw (ld_glob I hg hm ?_ hdb)
  refine PySem.W.callWith_K (h₀ := X.base) I.ok.mod.kin M.kp (thn (ha pos pins s σ H _ I h) fun us s1 ⟨vs, H1, I1, r, q⟩ => ⟨I1.kIn, ?_⟩) he hpl
  exact run_make M F hr hb hd hx I1 r q
end

section
variable {X : Cx} {CX : CXT} {k : Nat} {f C : Addr} {fd : FuncData} {ps ks : List Str} {sp : Sp} {E : XK} {x m : Str} {p pos apos kpos : Pos} {e o : Expr} {es : List Expr} {kws : List Keyword} {te ta : TE} {t tk : TA} {nm : Option Str}

variable {g : List Value → List Value → List Value} {gV : List V → List V → List V}
end

structure FnScope (N P : List Str) (sc : Scope) : Prop where
  kind : sc.kind = .function
  co : sc.isCoroutine = false
  gen : sc.isGenerator = false
  nd : N.Nodup
  pre : N.take P.length = P
  par : ∀ x ∈ P, sc.names.lookup x = some .local ∨ sc.names.lookup x = some .cell
  nofree : ∀ y ∈ sc.names, y.2 ≠ .free

theorem bindL_out {kindOf : Str → Option NameKind} {x : Str} : ∀ {binds : List (Str × Value)} {m : Str → Option Value}, (∀ v, (x, v) ∉ binds) → bindL kindOf binds m x = m x
  | [], _, _ => rfl
  | (n, v) :: r, m, h => by
    unfold bindL
    rw [bindL_out fun w hw => h w (List.mem_cons_of_mem _ hw)]
    split
    · have : x ≠ n := by rintro rfl; exact h v List.mem_cons_self
      simp [this]
    · rfl
theorem bindC_out {kindOf : Str → Option NameKind} {x : Str} : ∀ {binds : List (Str × Value)} {m : Str → Option Value}, (∀ v, (x, v) ∉ binds) → bindC kindOf binds m x = m x
  | [], _, _ => rfl
  | (n, v) :: r, m, h => by
    unfold bindC
    rw [bindC_out fun w hw => h w (List.mem_cons_of_mem _ hw)]
    split
    · rfl
    · have : x ≠ n := by rintro rfl; exact h v List.mem_cons_self
      simp [this]
theorem bindL_get {kindOf : Str → Option NameKind} {x : Str} {v : Value} : ∀ {P : List Str} {vs : List Value} {i : Nat} {m : Str → Option Value}, P.Nodup → P[i]? = some x → vs[i]? = some v → kindOf x = some .local →
    bindL kindOf (P.zip vs) m x = some v
  | [], _, _, _, _, h, _, _ => by simp at h
  | _ :: _, [], _, _, _, _, h, _ => by simp at h
  | p :: P, w :: vs, 0, m, nd, h1, h2, hk => by
    simp at h1 h2; subst h1; subst h2
    show bindL kindOf ((p, w) :: P.zip vs) m p = _
    unfold bindL
    rw [bindL_out fun v hv => (List.nodup_cons.mp nd).1 (List.of_mem_zip hv).1, if_pos hk]
    simp
  | p :: P, w :: vs, i + 1, m, nd, h1, h2, hk => by
    show bindL kindOf ((p, w) :: P.zip vs) m x = _
    unfold bindL
    exact bindL_get (i := i) (List.nodup_cons.mp nd).2 (by simpa using h1) (by simpa using h2) hk
theorem bindC_get {kindOf : Str → Option NameKind} {x : Str} {v : Value} : ∀ {P : List Str} {vs : List Value} {i : Nat} {m : Str → Option Value}, P.Nodup → P[i]? = some x → vs[i]? = some v → kindOf x ≠ some .local →
    bindC kindOf (P.zip vs) m x = some v
  | [], _, _, _, _, h, _, _ => by simp at h
  | _ :: _, [], _, _, _, _, h, _ => by simp at h
  | p :: P, w :: vs, 0, m, nd, h1, h2, hk => by
    simp at h1 h2; subst h1; subst h2
    show bindC kindOf ((p, w) :: P.zip vs) m p = _
    unfold bindC
    rw [bindC_out fun v hv => (List.nodup_cons.mp nd).1 (List.of_mem_zip hv).1, if_neg hk]
    simp
  | p :: P, w :: vs, i + 1, m, nd, h1, h2, hk => by
    show bindC kindOf ((p, w) :: P.zip vs) m x = _
    unfold bindC
    exact bindC_get (i := i) (List.nodup_cons.mp nd).2 (by simpa using h1) (by simpa using h2) hk

def start (N : List Str) (vs : List V) : St := vs.map some ++ List.replicate (N.length - vs.length) none

def cxOf (CX : CXT) (P : Program) (w : World) (K : PySem.W.Frag) (mg : Str → Option Value) (base : Heap) (N : List Str) (qual : Str) (scope : Scope) (f : Addr) (cd : Value) (A : Around) (outer : List Env) (s : Shared) (H : Hp) (E : XK) : Cx where
  prog := P
  w := w
  K := K
  mg := mg
  base := base
  A := A.deeper (envOfC qual scope s.heap.objs.size f cd)
  N := N
  s₀ := s
  H₀ := H
  env := envOfC qual scope s.heap.objs.size f cd
  outer := outer
  stack := envOfC qual scope s.heap.objs.size f cd :: outer
  ex := []
  calm := true
  fn := fun _ => true
  pn := []
  xe := fun e s' => wpAny (model P w) (A.deeper (envOfC qual scope s.heap.objs.size f cd)) (leaving (envOfC qual scope s.heap.objs.size f cd) e) (fun _ s'' => CX outer H s E e s'') (fun e' s'' => CX outer H s E e' s'') s'

theorem cell_has {sc : Scope} {n : Nat} {x : Str} (h : sc.names.lookup x = some .cell) : ∃ c, (cellsFrom n sc.names []).lookup x = some c := by
  have q := PySem.W.cellsFrom_some sc.names n [] (.inl h)
  exact Option.isSome_iff_exists.mp q

theorem inv_start {CX : CXT} {P : Program} {w : World} {K : PySem.W.Frag} {mg : Str → Option Value} {base : Heap} {N ps : List Str} {qual : Str} {scope : Scope} {f : Addr} {cd : Value} {A : Around} {outer : List Env} {s s1 : Shared} {H : Hp} {E : XK} {us : List Value} {vs : List V}
    (S : FnScope N ps scope) (hd : A.handled = none) (e0 : Env0 P w K mg base A outer s H) (hl : vs.length = ps.length) (r : Vals vs us)
    (x : InCallC s s.heap.objs.size (bindL (envOfC qual scope s.heap.objs.size f cd).kindOf (ps.zip us) fun _ => none) (cellsFrom (s.heap.objs.size + 1) scope.names []) (bindC (envOfC qual scope s.heap.objs.size f cd).kindOf (ps.zip us) fun _ => none) s1) :
    Inv (cxOf CX P w K mg base N qual scope f cd A outer s H E) [] (start N vs) H s1 := by
  have hpl : ps.length ≤ N.length := by have := congrArg List.length S.pre; rw [List.length_take] at this; (clear hl hd; omega)
  refine bg fun G' g' => ?_
  obtain ⟨h1, tk, rfl, hk⟩ := x.done
  refine g' ?_
  clear g' G'
  have noA : ∀ b : Addr, b ∉ (cxOf CX P w K mg base N qual scope f cd A outer s H E).ex := fun b z => absurd (show b ∈ ([] : List Addr) from z) (by simp)
  refine ⟨⟨e0.mod, S.kind, rfl, rfl, Nat.le_refl _, fun y z c h1 h2 => ?_, fun y hy => ?_, fun y c _ h => ?_, fun _ => hd, Around.frames_deeper e0.frames, .inr ⟨rfl, rfl⟩, fun b z => absurd z (noA b), e0.bs, e0.bsz, fun b _ _ => noA b, fun b z => absurd z (noA b), e0.funs, e0.frf⟩,
    rfl, e0.bare, Un.kept hk, ⟨_, x.toInCall.ns, fun i y v h1 h2 h3 => ?_⟩, fun y c h => ⟨_, x.cell y c h⟩, e0.hok.fresh (Nat.le_refl _), fun y c h => ?_, fun p hp => absurd (show p ∈ ([] : List (Addr × Obj)) from hp) (by simp), e0.hok.kept hk, ?_⟩
  · exact name_of_addr x.apart (PySem.mem_of_lookup h1) (PySem.mem_of_lookup h2)
  · have hy : scope.names.lookup y = some .cell ∨ scope.names.lookup y = some .free := hy
    rcases hy with hy | hy
    · exact cell_has hy
    · exact absurd rfl (S.nofree _ (PySem.mem_of_lookup hy))
  · exact Nat.le_of_lt (x.above y c (PySem.mem_of_lookup h))
  · have hi : i < vs.length := by
      unfold start at h2
      by_cases hi : i < vs.length
      · exact hi
      · rw [List.getElem?_append_right (by simpa using hi)] at h2
        rw [List.getElem?_replicate] at h2
        split at h2 <;> cases h2
    have ha : vs[i]? = some v := by
      unfold start at h2
      rw [List.getElem?_append_left (by simpa using hi), List.getElem?_map] at h2
      cases e : vs[i]? with
      | none => rw [e] at h2; cases h2
      | some a => rw [e] at h2; cases h2; rfl
    refine bg fun G' g' => ?_
    obtain ⟨u, hu, rv⟩ := r.get ha
    refine g' ?_
    clear g' G'
    have hp : ps[i]? = some y := by
      rw [← S.pre, List.getElem?_take_of_lt (by omega)]; exact h1
    have ndP : ps.Nodup := by rw [← S.pre]; exact S.nd.sublist (List.take_sublist _ _)
    refine ⟨u, rv, ?_⟩
    rcases S.par y (List.mem_of_getElem? hp) with k | k
    · exact .inl ⟨k, bindL_get ndP hp hu k⟩
    · obtain ⟨c, e⟩ := cell_has (n := s.heap.objs.size + 1) k
      refine .inr ⟨.inl k, c, e, ?_⟩
      have q := x.cell y c e
      rw [bindC_get ndP hp hu (by show scope.names.lookup y ≠ _; rw [k]; decide)] at q
      exact q
  · exact e0.hok.fresh (Nat.le_of_lt (x.above y c (PySem.mem_of_lookup h)))
  · unfold start
    show _ = N.length
    rw [List.length_append, List.length_map, List.length_replicate]
    omega

theorem fn_of {CX : CXT} {P : Program} {w : World} {K : PySem.W.Frag} {mg : Str → Option Value} {base : Heap} {k : Nat} {f : Addr} {name qual : Str} {params : Arguments} {body : List Stmt} {scope : Scope} {dV kV doc pm cdv ct oc : Value} {an od : Option Addr}
    {osl : Array (Option Value)} {N ps : List Str} {sp : Sp} (lk : K.lookup f = some ⟨oc, od, .func (PySem.W.fnOf name qual params body scope dV kV doc pm an cdv ct), osl⟩) (hcd : PySem.W.codeIn K cdv qual = true) (S : FnScope N ps scope)
    (len : ∀ vs H Q E, sp vs H Q E → vs.length = ps.length)
    (hbody : ∀ (A : Around) (outer : List Env) (s : Shared) (H : Hp) (vs : List V) (Q : VK) (E : XK), Room k (A.deeper (envOfC qual scope s.heap.objs.size f cdv)) → sp vs H Q E →
      ∃ t, PSs (cxOf CX P w K mg base N qual scope f cdv A outer s H E) body t ∧ t { nx := fun _ H' => Q .non H', rt := Q } (start N vs) H) :
    FnOk P w K mg base CX (k + 1) f (PySem.W.fnOf name qual params body scope dV kV doc pm an cdv ct) ps sp := by
  refine ⟨len, fun A outer s H args us vs Q E hr e0 hb r hsp => ?_⟩
  have hl := len _ _ _ _ hsp
  have KX : K.In s.heap := e0.mod.kin.keeps fun b o e => (e0.bs b o e).1
  have lim : s.heap.NoLimit := e0.mod.nolimit.keeps fun b o e => (e0.bs b o e).1
  have hkind : ∀ y ∈ ps.zip us, scope.names.lookup y.1 = some .local ∨ (scope.names.lookup y.1 = some .cell ∧ ((cellsFrom (s.heap.objs.size + 1) scope.names []).lookup y.1).isSome = true) := fun ⟨n, v⟩ hy => by
    rcases S.par n (List.of_mem_zip hy).1 with q | q
    · exact .inl q
    · exact .inr ⟨q, PySem.W.cellsFrom_some _ _ _ (.inl q)⟩
  refine codeAny_call_function hr.depth (KX _ _ lk) rfl S.co S.gen rfl (PySem.W.codeRec_of KX hcd) (hb _ _ _ _ ?_)
  refine wpAny_newFunctionEnv_cells S.kind hkind fun env he s1 x => ?_
  subst he
  refine ⟨lim.keeps x.toInCall.keep, codeAny_func ?_⟩
  refine bg fun G' g' => ?_
  obtain ⟨t, ht, hq⟩ := hbody A outer s H vs Q E (hr.deeper _) hsp
  refine g' ?_
  clear g' G'
  have I : Inv (cxOf CX P w K mg base N qual scope f cdv A outer s H E) [] (start N vs) H s1 := inv_start S hr.hd e0 hl r x
  refine wpAny_mono (ht [] s1 (start N vs) H _ I hq) (fun fl s' hs => ?_) fun e s' hs => hs
  have fin : ∀ {σ' : St} {H' : Hp} {v : V} {u : Value}, Inv (cxOf CX P w K mg base N qual scope f cdv A outer s H E) [] σ' H' s' → RelV v u → Q v H' → CE outer P w H s Q u s' :=
    fun {σ' H' v u} J rv q => ⟨v, H', J.os, J.bare, J.base, J.hok, rv, q⟩
  cases fl with
  | ret u =>
    refine bg fun G' g' => ?_
    obtain ⟨v, σ', H', J, rv, q⟩ := hs
    refine g' ?_
    clear g' G'
    exact fin J rv q
  | next =>
    refine bg fun G' g' => ?_
    obtain ⟨σ', H', J, q⟩ := hs
    refine g' ?_
    clear g' G'
    exact fin (v := V.non) (u := Value.none) J rfl q
  | brk =>
    refine bg fun G' g' => ?_
    obtain ⟨_, _, _, q⟩ := hs
    refine g' ?_
    clear g' G'
    exact False.elim q
  | cont =>
    refine bg fun G' g' => ?_
    obtain ⟨_, _, _, q⟩ := hs
    refine g' ?_
    clear g' G'
    exact False.elim q
end L2

namespace L2
open PySem PySem.Spec PyProof.Rows
section
variable {X : Cx} {x : Str} {p pos : Pos} {e : Expr} {es : List Expr} {t : TA} {id T : String} {r : List V → Hp → VK → Prop}

def tCB (r : List V → Hp → VK → Prop) (t : TA) : TE := fun σ H Q => t σ H fun vs H1 => r vs H1 Q
theorem pe_callB (hc : CallR X (.builtin id) r) (hg : Gl X x) (hm : X.mg x = none) (hv : bootBuiltins x = some (.builtin id)) (ha : PA X (e :: es) t) (hn : x ≠ "__name__" := by decide) (hdb : (x == ("__debug__" : Str)) = false := by decide)
    (he : starEach (e :: es) X.env = (false, eval e X.env) :: starEach es X.env := by rfl) (hpl : (backTo pos (starEach es X.env)).any (·.1) = false := by rfl) : PE X (.Call (.Name x p) (e :: es) [] pos) (tCB r t) := by
  intro pins s σ H Q I h
  refine wpAny_Call_Name_kw (ld_blt I hg hm hv ?_ hn hdb)
  exact PyProof.Rows.callWith_builtin1 (thn (ha pos pins s σ H _ I h) fun us s1 ⟨vs, H1, I1, r1, q1⟩ => hc pins s1 σ H1 vs us Q I1 r1 q1) he hpl
theorem pe_callTy (hc : CallR X (.type T) r) (hg : Gl X x) (hm : X.mg x = none) (hv : bootBuiltins x = some (.type T)) (ha : PA X (e :: es) t) (hn : x ≠ "__name__" := by decide) (hdb : (x == ("__debug__" : Str)) = false := by decide)
    (he : starEach (e :: es) X.env = (false, eval e X.env) :: starEach es X.env := by rfl) (hpl : (backTo pos (starEach es X.env)).any (·.1) = false := by rfl) : PE X (.Call (.Name x p) (e :: es) [] pos) (tCB r t) := by
  intro pins s σ H Q I h
  refine wpAny_Call_Name_kw (ld_blt I hg hm hv ?_ hn hdb)
  exact PyProof.Rows.callWith_type1 (thn (ha pos pins s σ H _ I h) fun us s1 ⟨vs, H1, I1, r1, q1⟩ => hc pins s1 σ H1 vs us Q I1 r1 q1) he hpl
end
end L2

namespace HT
open PySem PyProof.Rows



section
open PySem.SeqAt
open PySem.AutoSeq1 (wpAny_loadPart')
open PySem.MeetsSeq PySem.MeetsSeq2 PySem.MeetsSeq3

end

section
variable {prog : Program} {w : World} {A : Around} {E : Value → Shared → Prop} {s : Shared}



def sIx (n d : Nat) : Option Int → Nat
  | none => d
  | some v => if v < 0 then (v + (n : Int)).toNat else min v.toNat n
theorem sIx_none (n d : Nat) : sIx n d none = d := rfl
theorem sIx_nat (n d k : Nat) : sIx n d (some (k : Int)) = min k n := by
  show (if (k : Int) < 0 then ((k : Int) + (n : Int)).toNat else min (k : Int).toNat n) = min k n
  rw [if_neg (by omega), Int.toNat_natCast]
theorem sIx_le (n d : Nat) (hd : d ≤ n) (o : Option Int) : sIx n d o ≤ n := by
  cases o with
  | none => exact hd
  | some v =>
    show (if v < 0 then (v + (n : Int)).toNat else min v.toNat n) ≤ n
    by_cases hv : v < 0
    · rw [if_pos hv]; omega
    · rw [if_neg hv]; exact Nat.min_le_right _ _

end
end HT

namespace L2
open PySem PySem.Spec PyProof.Rows

abbrev TO := St → Hp → (Option Int → Hp → Prop) → Prop
def PO (X : Cx) (e : Option Expr) (t : TO) : Prop :=
  ∀ (pins : List (Addr × Obj)) (s : Shared) (σ : St) (H : Hp) (Q : Option Int → Hp → Prop), Inv X pins σ H s → t σ H Q →
    wpAny (model X.prog X.w) X.A (evalPart e X.env) (fun u s' => ∃ o H', Inv X pins σ H' s' ∧ IsPart u o ∧ Q o H') X.xe s
def tNoPart : TO := fun _ H Q => Q none H
def tPart (t : TE) : TO := fun σ H Q => t σ H fun x H1 => ∃ i, x = .int i ∧ Q (some i) H1


section
variable {X : Cx} {e : Expr} {te : TE} {lo hi : Option Expr} {tl th : TO} {pos p2 : Pos}

theorem po_none : PO X none tNoPart := by
  intro pins s σ H Q I h
  rw [evalPart_none]
  exact wpAny_pure ⟨none, H, I, .none, h⟩
theorem po_some (h : PE X e te) : PO X (some e) (tPart te) := by
  intro pins s σ H Q I hw
  rw [evalPart_some]
  refine thn (h pins s σ H _ I hw) fun u s1 ⟨x, H1, I1, r1, q1⟩ => ?_
  refine bg fun G' g' => ?_
  obtain ⟨i, rfl, q⟩ := q1
  refine g' ?_
  clear g' G'
  obtain ⟨t, rfl⟩ := r1
  exact ⟨some i, H1, I1, .int i t, q⟩

def SlR (X : Cx) (r : V → Option Int → Option Int → Hp → VK → Prop) : Prop :=
  ∀ (pins : List (Addr × Obj)) (s : Shared) (σ : St) (H : Hp) (x : V) (v vl vu : Value) (lo hi : Option Int) (sl : Addr) (Q : VK), Inv X pins σ H s → RelV x v → s.heap.IsSliceOf sl vl vu .none → IsPart vl lo → IsPart vu hi → r x lo hi H Q →
    ∃ T id, typeLookup (.type T) "__getitem__" = pure (some (.builtin id)) ∧ s.TypeIs v T ∧ wpAny (model X.prog X.w) X.A (getItem v (.ref sl)) (EP X pins σ Q) X.xe s
def tSl (r : V → Option Int → Option Int → Hp → VK → Prop) (te : TE) (tl th : TO) : TE := fun σ H Q => te σ H fun x H1 => tl σ H1 fun l H2 => th σ H2 fun u H3 => r x l u H3 Q
theorem pe_slice {r : V → Option Int → Option Int → Hp → VK → Prop} (hr : SlR X r) (he : PE X e te) (hl : PO X lo tl) (hu : PO X hi th) : PE X (.Subscript e (.Slice lo hi none p2) pos) (tSl r te tl th) := by
  intro pins s σ H Q I h
  refine Subscript_ (thn (he pins s σ H _ I h) fun v s1 ⟨x, H1, I1, r1, q1⟩ => ?_)
  refine wpAny_Slice (thn (hl pins s1 σ H1 _ I1 q1) fun vl s2 ⟨l, H2, I2, pl, q2⟩ => thn (hu pins s2 σ H2 _ I2 q2) fun vu s3 ⟨u, H3, I3, pu, q3⟩ => ?_)
  rw [evalPart_none]
  refine wpAny_pure ?_
  have I4 : Inv X pins σ H3 { s3 with heap := s3.heap.push { cls := .type "slice", data := .fields #[vl, vu, .none] } } := I3.kept (t' := s3.toks) fun b ob q => Heap.get?_push_of_some _ q
  refine bg fun G' g' => ?_
  obtain ⟨T, id, hT, ht, hg⟩ := hr pins { s3 with heap := s3.heap.push { cls := .type "slice", data := .fields #[vl, vu, .none] } } σ H3 x v vl vu l u s3.heap.objs.size Q I4 r1 (Heap.IsSliceOf.new ..) pl pu q3
  refine g' ?_
  clear g' G'
  show wpAny (model X.prog X.w) X.A (subscriptTail e (.Slice lo hi none p2) v (.ref s3.heap.objs.size)) (EP X pins σ Q) X.xe { s3 with heap := s3.heap.push { cls := .type "slice", data := .fields #[vl, vu, .none] } }
  exact tail_any (ops := [.ref s3.heap.objs.size, v]) ht hT hg (by with_unfolding_all rfl)

def cutV (xs : List V) (lo hi : Option Int) : List V := (xs.drop (HT.sIx xs.length 0 lo)).take (HT.sIx xs.length xs.length hi - HT.sIx xs.length 0 lo)
theorem cutV_length (xs : List V) (lo hi : Option Int) : (cutV xs lo hi).length ≤ xs.length := by
  unfold cutV
  rw [List.length_take, List.length_drop]
  omega

end
end L2

namespace L2
open PySem PySem.Spec PyProof.Rows

def ixN (n : Nat) (i : Int) : Option Nat := if 0 ≤ i then (if i < n then some i.toNat else none) else if -(n : Int) ≤ i then some (i + n).toNat else none
def atI {α : Type} (xs : List α) (i : Int) : Option α := (ixN xs.length i).bind fun j => xs[j]?
theorem ixN_seq {n : Nat} {i : Int} {j : Nat} (h : ixN n i = some j) : seqIndex? i n = some j ∧ j < n ∧ -(n : Int) ≤ i ∧ i < n := by
  unfold ixN at h
  by_cases h0 : 0 ≤ i
  · rw [if_pos h0] at h
    by_cases h1 : i < n
    · rw [if_pos h1] at h
      have e : i.toNat = j := Option.some.inj h
      exact ⟨by rw [seqIndex_of h0 h1, e], by omega, by omega, h1⟩
    · rw [if_neg h1] at h; cases h
  · rw [if_neg h0] at h
    by_cases h1 : -(n : Int) ≤ i
    · rw [if_pos h1] at h
      have e : (i + n).toNat = j := Option.some.inj h
      exact ⟨by rw [seqIndex_neg (by omega) h1, e], by omega, h1, by omega⟩
    · rw [if_neg h1] at h; cases h
theorem atI_get {α : Type} {xs : List α} {i : Int} {v : α} (h : atI xs i = some v) : ∃ j, seqIndex? i xs.length = some j ∧ xs[j]? = some v ∧ j < xs.length ∧ -(xs.length : Int) ≤ i ∧ i < xs.length := by
  unfold atI at h
  cases e : ixN xs.length i with
  | none => rw [e] at h; cases h
  | some j =>
    rw [e] at h
    refine bg fun G' g' => ?_
    obtain ⟨h1, h2, h3, h4⟩ := ixN_seq e
    refine g' ?_
    clear g' G'
    exact ⟨j, h1, h, h2, h3, h4⟩
theorem atI_nat {α : Type} {xs : List α} {j : Nat} {v : α} (h : xs[j]? = some v) : atI xs (j : Int) = some v := by
  have hj : j < xs.length := (List.getElem?_eq_some_iff.mp h).1
  have e : ixN xs.length (j : Int) = some j := by
    unfold ixN
    rw [if_pos (by omega), if_pos (by omega)]; simp
  unfold atI; rw [e]; exact h

def PlainIx (b : Expr) : Prop := ∀ o i, subscripted b false o i = operate [o, i] (getItem o i)
def IxR (X : Cx) (r : R2) : Prop :=
  ∀ (value slice : Expr) (pins : List (Addr × Obj)) (s : Shared) (σ : St) (H : Hp) (x y : V) (v u : Value) (Q : VK), Inv X pins σ H s → RelV x v → RelV y u → r x y H Q →
    subscripted slice false v u = operate [v, u] (getItem v u) → wpAny (model X.prog X.w) X.A (subscriptTail value slice v u) (EP X pins σ Q) X.xe s
def MtR (X : Cx) (id : String) (r : V → List V → Hp → VK → Prop) : Prop :=
  ∀ (pins : List (Addr × Obj)) (s : Shared) (σ : St) (H : Hp) (x : V) (xs : List V) (v : Value) (us : List Value) (Q : VK), Inv X pins σ H s → RelV x v → Vals xs us → r x xs H Q →
    wpAny (model X.prog X.w) X.A (call (.builtin id) (v :: us)) (EP X pins σ Q) X.xe s
section
variable {X : Cx} {a b : Expr} {ta tb : TE} {pos : Pos}
theorem pe_ix {r : R2} (hr : IxR X r) (ha : PE X a ta) (hb : PE X b tb) (hs : PlainIx b) : PE X (.Subscript a b pos) (tOp r ta tb) := by
  intro pins s σ H Q I h
  exact Subscript_ (binT ha hb I h fun v u s2 x y H2 I2 rx ry q => hr a b pins s2 σ H2 x y v u Q I2 rx ry q (hs _ _))

inductive rIxL (K : PySem.W.Frag) (x : V) (y : V) (H : Hp) (Q : VK) : Prop
  | mk (p : _) (xs : _) (i : _) (v : _) (c_1 : x = .ref p) (c_2 : y = .int i) (c_3 : SqL K H p xs) (c_4 : atI xs i = some v) (c_5 : Q v H)
inductive rIxT (K : PySem.W.Frag) (x : V) (y : V) (H : Hp) (Q : VK) : Prop
  | mk (p : _) (xs : _) (i : _) (v : _) (c_1 : x = .ref p) (c_2 : y = .int i) (c_3 : SqT K H p xs) (c_4 : atI xs i = some v) (c_5 : Q v H)
inductive rIxS (x : V) (y : V) (H : Hp) (Q : VK) : Prop
  | mk (z : _) (i : _) (c : _) (c_1 : x = .str z) (c_2 : y = .int i) (c_3 : z.length ≤ sizeLine) (c_4 : atI z.cps.toList i = some c) (c_5 : Q (.str ⟨#[c]⟩) H)
theorem ix_list : IxR X (rIxL X.K) := by
  intro value slice pins s σ H x y v u Q I rx ry h hs
  refine bg fun G' g' => ?_
  obtain ⟨p, xs, i, z, rfl, rfl, hq, he, q⟩ := h
  refine g' ?_
  clear g' G'
  cases rx
  obtain ⟨t, rfl⟩ := ry
  refine bg fun G' g' => ?_
  obtain ⟨its, r, pl, hz⟩ := I.list hq
  refine g' ?_
  clear g' G'
  refine bg fun G' g' => ?_
  obtain ⟨j, h1, h2, h3, h4, h5⟩ := atI_get he
  refine g' ?_
  clear g' G'
  refine bg fun G' g' => ?_
  obtain ⟨w, ew, rw'⟩ := r.get h2
  refine g' ?_
  clear g' G'
  have hl := r.length
  have hn := line63
  have fin : EP X pins σ Q w s := ⟨z, H, I, rw', q⟩
  by_cases h0 : 0 ≤ i
  · have hj : i.toNat = j := by
      rw [seqIndex_of h0 h5] at h1
      exact Option.some.inj h1
    exact item_listR pl.isList h0 (by (clear hj h0 ew h4 h3 h2 h1 hs he; omega)) (by rw [hj]; simpa using ew) fin hs
  · have hj : (i + (its.toArray.size : Int)).toNat = j := by
      rw [seqIndex_neg (by (clear hn hl ew h5 h4 h3 h2 h1 hz hs he; omega)) h4] at h1
      rw [List.size_toArray, ← hl]
      exact Option.some.inj h1
    exact subscriptTail_builtinR (x := w) pl.isList.typeIs slot_list_getitem.lookup
      (wpAny_getItem_list_neg (Q := fun r s' => r = w ∧ EP X pins σ Q r s') pl.isList (by (clear hj hn hl ew h5 h4 h3 h2 h1 hz hs he; omega)) (by rw [List.size_toArray] <;> (clear hj h0 hn ew h5 h3 h2 h1 hz hs he; omega)) (by (clear hj h0 ew h5 h3 h2 h1 hs he; omega)) (by rw [hj]; simpa using ew) ⟨rfl, fin⟩) hs
theorem ix_tup : IxR X (rIxT X.K) := by
  intro value slice pins s σ H x y v u Q I rx ry h hs
  refine bg fun G' g' => ?_
  obtain ⟨p, xs, i, z, rfl, rfl, hq, he, q⟩ := h
  refine g' ?_
  clear g' G'
  cases rx
  obtain ⟨t, rfl⟩ := ry
  refine bg fun G' g' => ?_
  obtain ⟨its, r, pl, hz⟩ := I.tuple hq
  refine g' ?_
  clear g' G'
  refine bg fun G' g' => ?_
  obtain ⟨j, h1, h2, h3, h4, h5⟩ := atI_get he
  refine g' ?_
  clear g' G'
  refine bg fun G' g' => ?_
  obtain ⟨w, ew, rw'⟩ := r.get h2
  refine g' ?_
  clear g' G'
  have hl := r.length
  have hn := line63
  have fin : EP X pins σ Q w s := ⟨z, H, I, rw', q⟩
  exact subscriptTail_builtinR (x := w) pl.typeIs slot_tuple_getitem.lookup
    (getItem_tuple (j := j) (Q := fun r s' => r = w ∧ EP X pins σ Q r s') pl (by (clear ew h5 h2 h1 hs he; omega)) (by (clear ew h4 h2 h1 hs he; omega)) (by rw [List.size_toArray, ← hl]; exact h1) (by simpa using ew) ⟨rfl, fin⟩) hs
theorem ix_str : IxR X rIxS := by
  intro value slice pins s σ H x y v u Q I rx ry h hs
  refine bg fun G' g' => ?_
  obtain ⟨z, i, c, rfl, rfl, hz, he, q⟩ := h
  refine g' ?_
  clear g' G'
  obtain ⟨t, rfl⟩ := rx
  obtain ⟨t', rfl⟩ := ry
  refine bg fun G' g' => ?_
  obtain ⟨j, h1, h2, h3, h4, h5⟩ := atI_get he
  refine g' ?_
  clear g' G'
  have hl : z.cps.toList.length = z.length := by simp [Str.length]
  rw [hl] at h1 h4 h5
  have hn := line63
  exact tail_any (typeIs_str s z t) slot_str_getitem.lookup (getItem_str (c := c) (by
    have e1 : decide (i < -(2 ^ 63 : Int)) = false := decide_eq_false (by (clear h5 h3 h2 h1 hs he; omega))
    have e2 : decide (i ≥ 2 ^ 63) = false := decide_eq_false (by (clear e1 h4 h3 h2 h1 hs he; omega))
    rw [e1, e2, Bool.or_false]) (by rw [h1]; simpa using h2) ⟨.str ⟨#[c]⟩, H, I.tok _, ⟨_, rfl⟩, q⟩) hs


theorem slice_bounds (lo hi : Option Int) (n : Nat) : (sliceBounds lo hi none n).1 = ((HT.sIx n 0 lo : Nat) : Int) ∧ (sliceBounds lo hi none n).2.1 = ((HT.sIx n n hi : Nat) : Int) ∧ (sliceBounds lo hi none n).2.2 = 1 := by
  refine ⟨?_, ?_, rfl⟩
  · cases lo with
    | none => simp [sliceBounds, HT.sIx]
    | some i =>
      simp only [sliceBounds, HT.sIx, Option.getD_none, show (1 : Int) > 0 by decide, if_true]
      by_cases h : i < 0
      · simp only [h, if_true] <;> omega
      · simp only [h, if_false] <;> omega
  · cases hi with
    | none => simp [sliceBounds, HT.sIx]
    | some i =>
      simp only [sliceBounds, HT.sIx, Option.getD_none, show (1 : Int) > 0 by decide, if_true]
      by_cases h : i < 0
      · simp only [h, if_true] <;> omega
      · simp only [h, if_false] <;> omega
theorem slicePick_cut (its : List Value) (lo hi : Option Int) : slicePick its.toArray lo hi none = ((its.drop (HT.sIx its.length 0 lo)).take (HT.sIx its.length its.length hi - HT.sIx its.length 0 lo)).toArray := by
  refine bg fun G' g' => ?_
  obtain ⟨h1, h2, h3⟩ := slice_bounds lo hi its.toArray.size
  refine g' ?_
  clear g' G'
  unfold slicePick
  rw [h1, h2, h3]
  simp only [sliceRange_one, pick_run, List.size_toArray] <;> rfl
inductive rSlL (K : PySem.W.Frag) (x : V) (lo : Option Int) (hi : Option Int) (H : Hp) (Q : VK) : Prop
  | mk (a : _) (xs : _) (c_1 : x = .ref a) (c_2 : SqL K H a xs) (c_3 : ∀ p, H p = none → Q (.ref p) (upd H p (.lst (cutV xs lo hi))))
theorem sl_list : SlR X (rSlL X.K) := by
  intro pins s σ H x v vl vu lo hi sl Q I rx hs pl pu h
  refine bg fun G' g' => ?_
  obtain ⟨a, xs, rfl, hx, q⟩ := h
  refine g' ?_
  clear g' G'
  cases rx
  refine bg fun G' g' => ?_
  obtain ⟨its, r, ht, hz⟩ := I.list hx
  refine g' ?_
  clear g' G'
  have hlen := r.length
  refine ⟨"list", _, slot_list_getitem.lookup, ht.isList.typeIs, ?_⟩
  refine wpAny_getItem_list_slice ht.isList hs pl pu .none (by simp) ?_ (by rw [List.size_toArray] <;> omega)
  rw [slicePick_cut, ← hlen]
  refine ⟨.ref s.heap.objs.size, _, I.laid (t' := s.toks) (o := .lst (cutV xs lo hi)) (fun b ob q => Heap.get?_push_of_some _ q) (Nat.le_refl _) ?_, rfl, q _ (I.hok.fresh (Nat.le_refl _))⟩
  exact ⟨Nat.le_trans (cutV_length xs lo hi) hz, _, 0, (r.drop (HT.sIx xs.length 0 lo)).take (HT.sIx xs.length xs.length hi - HT.sIx xs.length 0 lo), Heap.get?_push_size _ rfl⟩


theorem call_len_seq : CallR X (.builtin "len") (fun xs H Q => ∃ p ys, xs = [.ref p] ∧ (SqL X.K H p ys ∨ SqT X.K H p ys) ∧ Q (.int ys.length) H) := by
  intro pins s σ H xs us Q I r h
  refine bg fun G' g' => ?_
  obtain ⟨p, ys, rfl, hq, q⟩ := h
  refine g' ?_
  clear g' G'
  refine bg fun G' g' => ?_
  obtain ⟨u, rfl, rx⟩ := vals1 r
  refine g' ?_
  clear g' G'
  cases rx
  have hn := line63
  rcases hq with hq | hq
  · refine bg fun G' g' => ?_
    obtain ⟨its, r', pl, hz⟩ := I.list hq
    refine g' ?_
    clear g' G'
    have hlen := r'.length
    exact Calls.call_len_list pl.isList (by simp only [List.size_toArray] <;> omega) ⟨.int ys.length, H, I.tok _, ⟨s.toks + 1, by rw [List.size_toArray, hlen]⟩, q⟩
  · refine bg fun G' g' => ?_
    obtain ⟨its, r', pl, hz⟩ := I.tuple hq
    refine g' ?_
    clear g' G'
    have hlen := r'.length
    exact len_tuple pl (by simp only [List.size_toArray] <;> omega) ⟨.int ys.length, H, I.tok _, ⟨s.toks + 1, by rw [List.size_toArray, hlen]⟩, q⟩
theorem call_len_str : CallR X (.builtin "len") (fun xs H Q => ∃ z, xs = [.str z] ∧ z.length ≤ sizeLine ∧ Q (.int z.length) H) := by
  intro pins s σ H xs us Q I r h
  refine bg fun G' g' => ?_
  obtain ⟨z, rfl, hz, q⟩ := h
  refine g' ?_
  clear g' G'
  refine bg fun G' g' => ?_
  obtain ⟨u, rfl, t, rfl⟩ := vals1 r
  refine g' ?_
  clear g' G'
  have hn := line63
  exact len_str (by omega) ⟨.int z.length, H, I.tok _, ⟨_, rfl⟩, q⟩
theorem call_list_of : CallR X (.type "list") (fun xs H Q => ∃ p ys, xs = [.ref p] ∧ (SqL X.K H p ys ∨ SqT X.K H p ys) ∧ ∀ l, H l = none → Q (.ref l) (upd H l (.lst ys))) := by
  intro pins s σ H xs us Q I r h
  refine bg fun G' g' => ?_
  obtain ⟨p, ys, rfl, hq, q⟩ := h
  refine g' ?_
  clear g' G'
  refine bg fun G' g' => ?_
  obtain ⟨u, rfl, rx⟩ := vals1 r
  refine g' ?_
  clear g' G'
  cases rx
  have fin : ∀ (its : List Value), Vals ys its → ys.length ≤ sizeLine → ∀ (h' : Heap) (c' : Nat), (∀ b o', s.heap.get? b = some o' → h'.get? b = some o') →
      h'.get? s.heap.objs.size = some { cls := .type "list", dict := none, data := .seq its.toArray c', slots := #[] } → EP X pins σ Q (.ref s.heap.objs.size) { s with heap := h' } := fun its r' hz h' c' kp e =>
    ⟨.ref s.heap.objs.size, _, I.laid (t' := s.toks) kp (Nat.le_refl _) (show ObjOk X.prog X.w _ h' _ (.lst ys) from ⟨hz, its, c', r', e⟩), rfl, q _ (I.hok.fresh (Nat.le_refl _))⟩
  rcases hq with hq | hq
  · refine bg fun G' g' => ?_
    obtain ⟨its, r', pl, hz⟩ := I.list hq
    refine g' ?_
    clear g' G'
    have hlen := r'.length
    refine bg fun G' g' => ?_
    obtain ⟨o, ho, hc, n, hd⟩ := pl.isList
    refine g' ?_
    clear g' G'
    exact call_list_seq p (.inl rfl) ho hc hd (fun h' c' kp e => fin its r' hz h' c' kp e) (by simp only [List.size_toArray] <;> omega)
  · refine bg fun G' g' => ?_
    obtain ⟨its, r', pl, hz⟩ := I.tuple hq
    refine g' ?_
    clear g' G'
    have hlen := r'.length
    refine bg fun G' g' => ?_
    obtain ⟨o, ho, hc, n, hd⟩ := pl
    refine g' ?_
    clear g' G'
    exact call_list_seq p (.inr rfl) ho hc hd (fun h' c' kp e => fin its r' hz h' c' kp e) (by simp only [List.size_toArray] <;> omega)
theorem call_tuple_of : CallR X (.type "tuple") (fun xs H Q => ∃ p ys, xs = [.ref p] ∧ ((SqL X.K H p ys ∧ ∀ l, H l = none → Q (.ref l) (upd H l (.tup ys))) ∨ (SqT X.K H p ys ∧ Q (.ref p) H))) := by
  intro pins s σ H xs us Q I r h
  refine bg fun G' g' => ?_
  obtain ⟨p, ys, rfl, h⟩ := h
  refine g' ?_
  clear g' G'
  refine bg fun G' g' => ?_
  obtain ⟨u, rfl, rx⟩ := vals1 r
  refine g' ?_
  clear g' G'
  cases rx
  rcases h with ⟨hq, q⟩ | ⟨hq, q⟩
  · refine bg fun G' g' => ?_
    obtain ⟨its, r', pl, hz⟩ := I.list hq
    refine g' ?_
    clear g' G'
    have hlen := r'.length
    refine call_tuple_list pl.isList (fun h' kp => ?_) (by simp only [List.size_toArray] <;> omega)
    have I1 : Inv X pins σ H { s with heap := h' } := I.kept (t' := s.toks) kp
    have I2 : Inv X pins σ (upd H h'.objs.size (.tup ys)) { s with heap := h'.push { cls := .type "tuple", data := .seq its.toArray } } :=
      I1.laid (t' := s.toks) (fun b o e => Heap.get?_push_of_some _ e) (Nat.le_refl _) (show ObjOk X.prog X.w _ _ _ (.tup ys) from ⟨hz, its, r', IsTup.new _ _⟩)
    exact ⟨.ref h'.objs.size, _, I2, rfl, q _ (I1.hok.fresh (Nat.le_refl _))⟩
  · refine bg fun G' g' => ?_
    obtain ⟨its, r', pl, hz⟩ := I.tuple hq
    refine g' ?_
    clear g' G'
    exact call_tuple_same pl ⟨.ref p, H, I, rfl, q⟩

def tyV (K : PySem.W.Frag) (T : String) (x : V) (H : Hp) : Prop := match x with
  | .str _ => T = "str"
  | .int _ => T = "int"
  | .ref p => (T = "list" ∧ ∃ xs, SqL K H p xs) ∨ (T = "tuple" ∧ ∃ o, K.lookup p = some o ∧ o.cls = .type "tuple" ∧ o.dict = none) ∨
      (T = "dict" ∧ ((∃ kvs, H p = some (.dK kvs)) ∨ ∃ kvs, H p = some (.dT kvs))) ∨ (T = "set" ∧ ∃ S n, H p = some (.set S n))
  | _ => False
theorem tyV_is {pins : List (Addr × Obj)} {σ : St} {H : Hp} {s : Shared} {T : String} {x : V} {v : Value} (I : Inv X pins σ H s) (r : RelV x v) (ty : tyV X.K T x H) :
    s.TypeIs v T ∧ ∀ a, v = .ref a → ∃ ob, s.heap.get? a = some ob ∧ ob.dict = none := by
  cases x with
  | str z =>
    obtain ⟨t, rfl⟩ := r
    cases (show T = "str" from ty)
    exact ⟨typeIs_str s z t, fun _ e => nomatch e⟩
  | int i =>
    obtain ⟨t, rfl⟩ := r
    cases (show T = "int" from ty)
    exact ⟨typeIs_int s i t, fun _ e => nomatch e⟩
  | ref p =>
    cases r
    rcases ty with ⟨rfl, xs, hq⟩ | ⟨rfl, o, hk, hc, hd⟩ | ⟨rfl, hk⟩ | ⟨rfl, S, n, hk⟩
    · refine bg fun G' g' => ?_
      obtain ⟨its, _, pl, _⟩ := I.list hq
      refine g' ?_
      clear g' G'
      refine ⟨pl.isList.typeIs, fun a e => ?_⟩
      cases e
      refine bg fun G' g' => ?_
      obtain ⟨o, n, e, c, hd, _⟩ := pl
      refine g' ?_
      clear g' G'
      exact ⟨o, e, hd⟩
    · refine ⟨⟨o, I.kIn p o hk, hc⟩, fun a e => ?_⟩
      cases e
      exact ⟨o, I.kIn _ o hk, hd⟩
    · have z : ∃ o, s.heap.get? p = some o ∧ o.ExactDict := by
        rcases hk with ⟨kvs, hk⟩ | ⟨kvs, hk⟩
        · refine bg fun G' g' => ?_
          obtain ⟨_, _, _, _, o, _, _, e, ex, _⟩ := I.hok p _ hk
          refine g' ?_
          clear g' G'
          exact ⟨o, e, ex⟩
        · refine bg fun G' g' => ?_
          obtain ⟨_, _, _, _, o, _, _, e, ex, _⟩ := I.hok p _ hk
          refine g' ?_
          clear g' G'
          exact ⟨o, e, ex⟩
      refine bg fun G' g' => ?_
      obtain ⟨o, e, ex⟩ := z
      refine g' ?_
      clear g' G'
      refine ⟨⟨o, e, ex.1⟩, fun a e2 => ?_⟩
      cases e2
      exact ⟨o, e, ex.2.1⟩
    · refine bg fun G' g' => ?_
      obtain ⟨o, _, _, _, e, ex, _⟩ := I.hok p _ hk
      refine g' ?_
      clear g' G'
      refine ⟨⟨o, e, ex.1⟩, fun a e2 => ?_⟩
      cases e2
      exact ⟨o, e, ex.2.1⟩
  | _ => exact False.elim ty
def tBM0 (K : PySem.W.Frag) (T : String) (r : V → List V → Hp → VK → Prop) (to : TE) : TE := fun σ H Q => to σ H fun x H1 => tyV K T x H1 ∧ r x [] H1 Q
def tBM (K : PySem.W.Frag) (T : String) (r : V → List V → Hp → VK → Prop) (to : TE) (t : TA) : TE := fun σ H Q => to σ H fun x H1 => tyV K T x H1 ∧ t σ H1 fun xs H2 => r x xs H2 Q
variable {o e : Expr} {es : List Expr} {to : TE} {t : TA} {name : Str} {apos cpos : Pos} {T id : String} {r : V → List V → Hp → VK → Prop}
theorem pe_bm0 (pa : PlainAttrs T) (slot : Slot T name id) (hty : typeOf (.builtin id) = pure (.type "method_descriptor")) (hm : MtR X id r) (ho : PE X o to)
    (hbase : attributeBase o name X.env (eval o X.env) = eval o X.env := by rfl) (hline : (apos.endLine == cpos.line) = true := by rfl) : PE X (.Call (.Attribute o name apos) [] [] cpos) (tBM0 X.K T r to) := by
  intro pins s σ H Q I h
  refine wpAny_Call_method0_late hbase hline (thn (ho pins s σ H _ I h) fun v s1 ⟨x, H1, I1, r1, ty, q1⟩ => ?_)
  obtain ⟨h1, h2⟩ := tyV_is I1 r1 ty
  exact ⟨T, id, pa, slot, hty, h1, h2, Calls.callWith_builtin rfl (PySem.evalArgs_none (hm pins s1 σ H1 x [] v [] Q I1 r1 .nil q1))⟩
theorem pe_bm (pa : PlainAttrs T) (slot : Slot T name id) (hty : typeOf (.builtin id) = pure (.type "method_descriptor")) (hm : MtR X id r) (ho : PE X o to) (ha : PA X (e :: es) t)
    (hbase : attributeBase o name X.env (eval o X.env) = eval o X.env := by rfl)
    (hfew : ((backTo cpos (starEach (e :: es) X.env)).all (fun x => !x.1) && (backToKw cpos (keywordEach [] X.env)).all (fun x => x.1.isSome)
      && decide ((e :: es).length + ([] : List Keyword).length + (if ([] : List Keyword).isEmpty then 0 else 1) < 30)) = true := by rfl)
    (hline : (apos.endLine == cpos.line) = true := by rfl) (hs : starEach (e :: es) X.env = (false, eval e X.env) :: starEach es X.env := by rfl) (hplain : (backTo cpos (starEach es X.env)).any (·.1) = false := by rfl) :
    PE X (.Call (.Attribute o name apos) (e :: es) [] cpos) (tBM X.K T r to t) := by
  intro pins s σ H Q I h
  refine wpAny_Call_method_late hbase hfew hline rfl (thn (ho pins s σ H _ I h) fun v s1 ⟨x, H1, I1, r1, ty, q1⟩ => ?_)
  obtain ⟨h1, h2⟩ := tyV_is I1 r1 ty
  refine ⟨T, id, pa, slot, hty, h1, h2, ?_⟩
  have hA := ha cpos pins s1 σ H1 _ I1 q1
  rw [hs] at hA ⊢
  refine Calls.callWith_builtin (by show (false || (backTo cpos (starEach es X.env)).any (·.1)) = false; rw [hplain] <;> rfl) (Calls.evalArgs_plain ?_)
  exact thn hA fun us s2 ⟨vs, H2, I2, r2, q2⟩ => hm pins s2 σ H2 x vs v us Q I2 r1 r2 q2
/- xs.append(e), list.index on a module's tuple .. are MtR facts of 06m -/
end
end L2

namespace L2
open PySem PySem.Spec PyProof.Rows

def MtM (X : Cx) (id : String) (r : V → List V → Hp → VK → Prop) : Prop :=
  ∀ (pins : List (Addr × Obj)) (s : Shared) (σ : St) (H : Hp) (x : V) (xs : List V) (v : Value) (us : List Value) (Q : VK), Inv X pins σ H s → RelV x v → Vals xs us → r x xs H Q →
    wpAny (model X.prog X.w) X.A (call (.builtin id) (v :: us)) (EP X pins σ Q) X.xe s

theorem Vals.one {x : V} {us : List Value} (h : Vals [x] us) : ∃ u, us = [u] ∧ RelV x u := by
  cases h with
  | cons r t => cases t; exact ⟨_, rfl, r⟩
theorem Vals.rep {xs : List V} {us : List Value} (h : Vals xs us) : ∀ k : Nat, Vals (List.replicate k xs).flatten (List.replicate k us).flatten
  | 0 => .nil
  | k + 1 => by
    rw [List.replicate_succ, List.replicate_succ, List.flatten_cons, List.flatten_cons]
    exact Vals.append h (Vals.rep h k)
theorem foldl_rep (its : List Value) : ∀ (k : Nat) (acc : List Value),
    List.foldl (fun x1 x2 => x1 ++ x2) acc.toArray (List.replicate k its.toArray) = (acc ++ (List.replicate k its).flatten).toArray
  | 0, acc => by simp
  | k + 1, acc => by
    have e : acc.toArray ++ its.toArray = (acc ++ its).toArray := by simp
    have e2 : (acc ++ its) ++ (List.replicate k its).flatten = acc ++ (List.replicate (k + 1) its).flatten := by
      rw [List.replicate_succ, List.flatten_cons, List.append_assoc]
    rw [← e2, ← foldl_rep its k (acc ++ its), ← e, List.replicate_succ, List.foldl_cons]

section
variable {X : Cx} {pins : List (Addr × Obj)} {σ : St} {H : Hp} {s : Shared} {l b : Addr} {xs ys zs : List V}

theorem Inv.lset {its its' : List Value} {n : Nat} {f : Array Value → Array Value} {t' : Nat} (I : Inv X pins σ H s) (hH : H l = some (.lst xs))
    (e : s.heap.get? l = some { cls := .type "list", data := .seq its.toArray n }) (hf : f its.toArray = its'.toArray) (hv : Vals ys its') (hz : ys.length ≤ sizeLine) :
    Inv X pins σ (upd H l (.lst ys)) { s with heap := s.heap.update l (Obj.mapSeq f), toks := t' } := by
  have q := PySem.IsL.update e f
  rw [hf] at q
  refine I.write (x := l) (e := l) (by rw [hH]; exact trivial) (.inl rfl) (fun b' u hb hu => (Heap.get?_update_other s.heap (Obj.mapSeq f) (Ne.symm hb)).trans hu) ⟨_, q⟩ ?_
  exact ⟨hz, its', _, hv, q⟩
theorem Inv.lnew {its : List Value} {t' : Nat} (I : Inv X pins σ H s) (hv : Vals ys its) (hz : ys.length ≤ sizeLine) :
    Inv X pins σ (upd H s.heap.objs.size (.lst ys)) { s with heap := s.heap.push { cls := .type "list", data := .seq its.toArray }, toks := t' } :=
  I.laid (fun _ _ q => Heap.get?_push_of_some _ q) (Nat.le_refl _) ⟨hz, its, 0, hv, Heap.get?_push_size _ rfl⟩
theorem Inv.fresh (I : Inv X pins σ H s) : H s.heap.objs.size = none := I.hok.fresh (Nat.le_refl _)
theorem Inv.lstM (I : Inv X pins σ H s) (hH : H l = some (.lst xs)) : xs.length ≤ sizeLine ∧ ∃ (its : List Value) (n : Nat), Vals xs its ∧ xs.length = its.length ∧ s.heap.get? l = some { cls := .type "list", data := .seq its.toArray n } := by
  refine bg fun G' g' => ?_
  obtain ⟨z, its, n, r, e⟩ := I.hok l _ hH
  refine g' ?_
  clear g' G'
  exact ⟨z, its, n, r, r.length, e⟩

theorem notLongL {n : Nat} (h : n ≤ sizeLine) : Builtin.List.listTooLong n = false := by
  unfold Builtin.List.listTooLong
  exact decide_eq_false (by omega)
end

section
variable {X : Cx}

inductive rAppend (x : V) (vs : List V) (H : Hp) (Q : VK) : Prop
  | mk (l : _) (xs : _) (y : _) (c_1 : x = .ref l) (c_2 : vs = [y]) (c_3 : H l = some (.lst xs)) (c_4 : xs.length < sizeLine) (c_5 : Q .non (upd H l (.lst (xs ++ [y]))))
theorem mt_append : MtM X "list.append" rAppend := by
  intro pins s σ H x vs v us Q I rx rv h
  refine bg fun G' g' => ?_
  obtain ⟨l, xs, y, rfl, rfl, hH, hz, q⟩ := h
  refine g' ?_
  clear g' G'
  cases rx
  refine bg fun G' g' => ?_
  obtain ⟨u, rfl, ru⟩ := rv.one
  refine g' ?_
  clear g' G'
  refine bg fun G' g' => ?_
  obtain ⟨z, its, n, r, hl, e⟩ := I.lstM hH
  refine g' ?_
  clear g' G'
  refine call_meets F.slot_list_append ⟨_, e, rfl⟩ F.entry_list_append (F.args_list_append_2 _ _) (PySem.list_append l its.toArray n u (by rw [List.size_toArray]; omega)) ⟨e, ?_⟩
  refine ⟨.non, _, I.lset (its' := its ++ [u]) hH e (by simp) (r.append (.cons ru .nil)) ?_, rfl, q⟩
  rw [List.length_append, List.length_singleton]
  omega

inductive rExtend (x : V) (vs : List V) (H : Hp) (Q : VK) : Prop
  | mk (l : _) (b : _) (xs : _) (zs : _) (c_1 : x = .ref l) (c_2 : vs = [.ref b]) (c_3 : H l = some (.lst xs)) (c_4 : H b = some (.lst zs)) (c_5 : xs.length + zs.length ≤ sizeLine) (c_6 : Q .non (upd H l (.lst (xs ++ zs))))
theorem mt_extend : MtM X "list.extend" rExtend := by
  intro pins s σ H x vs v us Q I rx rv h
  refine bg fun G' g' => ?_
  obtain ⟨l, b, xs, zs, rfl, rfl, hH, hB, hz, q⟩ := h
  refine g' ?_
  clear g' G'
  cases rx
  refine bg fun G' g' => ?_
  obtain ⟨u, rfl, ru⟩ := rv.one
  refine g' ?_
  clear g' G'
  cases ru
  refine bg fun G' g' => ?_
  obtain ⟨z, its, n, r, hl, e⟩ := I.lstM hH
  refine g' ?_
  clear g' G'
  refine bg fun G' g' => ?_
  obtain ⟨z2, its2, n2, r2, hl2, e2⟩ := I.lstM hB
  refine g' ?_
  clear g' G'
  have hsz : its.toArray.size + its2.toArray.size ≤ sizeLine := by rw [List.size_toArray, List.size_toArray]; omega
  have hlong : ¬ (!its.toArray.isEmpty && Builtin.List.listTooLong (its.toArray.size + its2.toArray.size)) = true := by
    rw [notLongL hsz, Bool.and_false]
    exact Bool.false_ne_true
  refine call_meets F.slot_list_extend ⟨_, e, rfl⟩ F.entry_list_extend (F.args_list_extend_2 _ _)
    (AutoSeq1.list_extend_list_list_0 l its.toArray n b its2.toArray n2 hlong (by rw [List.size_toArray]; omega) (by (clear hlong e2 hl2 z2 e hl z hz hB hH; omega))) ⟨e, e2, ?_⟩
  refine ⟨.non, _, I.lset (its' := its ++ its2) hH e (by simp) (r.append r2) ?_, rfl, q⟩
  rw [List.length_append]
  omega





inductive rCat (x : V) (y : V) (H : Hp) (Q : VK) : Prop
  | mk (l : _) (b : _) (xs : _) (zs : _) (c_1 : x = .ref l) (c_2 : y = .ref b) (c_3 : H l = some (.lst xs)) (c_4 : H b = some (.lst zs)) (c_5 : xs.length + zs.length ≤ sizeLine) (c_6 : ∀ p, H p = none → Q (.ref p) (upd H p (.lst (xs ++ zs))))
theorem op_cat : OpR X (binaryOp .Add) rCat := by
  intro pins s σ H x y v u Q I rx ry h
  refine bg fun G' g' => ?_
  obtain ⟨l, b, xs, zs, rfl, rfl, hH, hB, hz, q⟩ := h
  refine g' ?_
  clear g' G'
  cases rx
  cases ry
  refine bg fun G' g' => ?_
  obtain ⟨z, its, n, r, hl, e⟩ := I.lstM hH
  refine g' ?_
  clear g' G'
  refine bg fun G' g' => ?_
  obtain ⟨z2, its2, n2, r2, hl2, e2⟩ := I.lstM hB
  refine g' ?_
  clear g' G'
  refine PySem.P.add_list e e2 ?_ (by rw [List.size_toArray, List.size_toArray]; omega)
  have ea : its.toArray ++ its2.toArray = (its ++ its2).toArray := by simp
  rw [ea]
  exact ⟨.ref _, _, I.lnew (t' := s.toks) (r.append r2) (by rw [List.length_append]; omega), rfl, q _ I.fresh⟩
inductive rRep (x : V) (y : V) (H : Hp) (Q : VK) : Prop
  | mk (l : _) (k : _) (xs : _) (c_1 : x = .ref l) (c_2 : y = .int k) (c_3 : H l = some (.lst xs)) (c_4 : -(2 ^ 63) ≤ k) (c_5 : k < 2 ^ 63) (c_6 : xs.length * k.toNat ≤ sizeLine) (c_7 : ∀ p, H p = none → Q (.ref p) (upd H p (.lst (List.replicate k.toNat xs).flatten)))
theorem len_rep {α : Type} (xs : List α) (k : Nat) : (List.replicate k xs).flatten.length = k * xs.length := by
  induction k with
  | zero => simp
  | succ k ih => rw [List.replicate_succ, List.flatten_cons, List.length_append, ih, Nat.succ_mul, Nat.add_comm]
theorem op_rep : OpR X (binaryOp .Mult) rRep := by
  intro pins s σ H x y v u Q I rx ry h
  refine bg fun G' g' => ?_
  obtain ⟨l, k, xs, rfl, rfl, hH, h1, h2, hz, q⟩ := h
  refine g' ?_
  clear g' G'
  cases rx
  obtain ⟨t, rfl⟩ := ry
  refine bg fun G' g' => ?_
  obtain ⟨z, its, n, r, hl, e⟩ := I.lstM hH
  refine g' ?_
  clear g' G'
  have hlen : its.toArray.size * k.toNat ≤ sizeLine := by rw [List.size_toArray, ← hl]; exact hz
  have hcap : ¬ its.toArray.size * k.toNat > (2 ^ 63 - 1) / 8 := by
    have : (sizeLine : Nat) ≤ (2 ^ 63 - 1) / 8 := by decide
    (clear e hl z hz h2 h1 hH; omega)
  have hfit : ¬ (!Builtin.List.listFitsIndex k) = true := by
    rw [fitsIndex_both h1 h2]
    exact Bool.false_ne_true
  have hlong : ¬ Builtin.List.listTooLong (its.toArray.size * k.toNat) = true := by
    rw [notLongL hlen]
    exact Bool.false_ne_true
  have hnew : List.foldl (fun x1 x2 => x1 ++ x2) #[] (List.replicate (if its.toArray.isEmpty = true then 0 else k.toNat) its.toArray) = (List.replicate k.toNat its).flatten.toArray := by
    have f0 : ∀ m : Nat, List.foldl (fun x1 x2 => x1 ++ x2) #[] (List.replicate m its.toArray) = (List.replicate m its).flatten.toArray := fun m => by
      have := foldl_rep its m []
      rw [List.nil_append] at this
      exact this
    rw [f0]
    cases its with
    | nil => simp
    | cons a r' => rw [if_neg (by simp)]
  refine wpAny_binaryOp_repeat_ref (T := "list") (U := "int") (by decide) ⟨_, e, rfl⟩ (fun s' => typeIs_int s' k t) noFill_list_mul F.fills_int_mul F.slot_int_rmul repeat_list F.slot_int_index.lookup
    (call_meets F.slot_int_rmul (typeIs_int s k t) F.entry_int_rmul (F.args_int_rmul_2 _ _) (int___rmul___int_list k t l its.toArray n)
      ⟨e, rfl, ⟨_, e, rfl⟩, call_meets F.slot_list_mul ⟨_, e, rfl⟩ F.entry_list_mul (F.args_list_mul_2 _ _) (AutoListH.list___mul___list_int_3 l its.toArray n k t hfit hcap hlong) ⟨e, ?_⟩⟩)
  rw [hnew]
  exact ⟨.ref _, _, I.lnew (t' := s.toks) (r.rep k.toNat) (by rw [len_rep, Nat.mul_comm]; exact hz), rfl, q _ I.fresh⟩

end

section
variable {prog : Program} {w : World} {A : Around} {E : Value → Shared → Prop} {s : Shared}
end

section
variable {X : Cx}
end
end L2

namespace L2
open PySem PySem.Spec PyProof.Rows

theorem Vals.ints : ∀ {ns : List Int} {us : List Value}, Vals (ns.map V.int) us → IntsAre us ns
  | [], us, h => by
    rw [List.map_nil] at h
    cases h
    exact IntsAre.nil
  | n :: ns, us, h => by
    rw [List.map_cons] at h
    cases h with
    | cons r t =>
      obtain ⟨k, rfl⟩ := r
      exact IntsAre.cons n k (Vals.ints t)
theorem vals_of_ints : ∀ {us : List Value} {ns : List Int}, IntsAre us ns → Vals (ns.map V.int) us
  | _, _, .nil => by rw [List.map_nil]; exact Paired.nil
  | _, _, .cons n t h => by rw [List.map_cons]; exact Paired.cons (show RelV (V.int n) (Value.int n t) from ⟨t, rfl⟩) (vals_of_ints h)

section
variable {prog : Program} {w : World} {A : Around} {E : Value → Shared → Prop} {s : Shared} {l : Addr} {its : List Value} {ns : List Int} {Q : Value → Shared → Prop}
end

section
variable {X : Cx}

end

section
variable {X : Cx}
end

section
variable {X : Cx}
end

section
variable {X : Cx}
end

mutual
inductive Dp (K : PySem.W.Frag) (H : Hp) : V → PyData → Prop
  | non : Dp K H .non .none
  | bl (b : Bool) : Dp K H (.bl b) (.bool b)
  | int (i : Int) : Dp K H (.int i) (.int i)
  | str (x : Str) : Dp K H (.str x) (.str x)
  | lst {a : Addr} {xs : List V} {ds : List PyData} : SqL K H a xs → DpAll K H xs ds → Dp K H (.ref a) (.list ds)
  | tup {a : Addr} {xs : List V} {ds : List PyData} : SqT K H a xs → DpAll K H xs ds → Dp K H (.ref a) (.tuple ds)
inductive DpAll (K : PySem.W.Frag) (H : Hp) : List V → List PyData → Prop
  | nil : DpAll K H [] []
  | cons {v : V} {vs : List V} {d : PyData} {ds : List PyData} : Dp K H v d → DpAll K H vs ds → DpAll K H (v :: vs) (d :: ds)
end
section
variable {X : Cx} {pins : List (Addr × Obj)} {σ : St} {H : Hp} {s : Shared}
mutual
theorem Dp.reads (I : Inv X pins σ H s) : ∀ (d : PyData) (v : V) (u : Value), Dp X.K H v d → RelV v u → ∃ as, Reads s.heap u d as
  | .none, _, _, h, r => by
    cases h
    cases r
    exact ⟨_, Reads.none⟩
  | .bool b, _, _, h, r => by
    cases h
    cases r
    exact ⟨_, Reads.bool b⟩
  | .int i, _, _, h, r => by
    cases h
    obtain ⟨t, rfl⟩ := r
    exact ⟨_, Reads.int i t⟩
  | .str x, _, _, h, r => by
    cases h
    obtain ⟨t, rfl⟩ := r
    exact ⟨_, Reads.str x t⟩
  | .list ds, _, _, h, r => by
    cases h with
    | lst hs ha =>
      cases r
      refine bg fun G' g' => ?_
      obtain ⟨its, rv, ⟨o, n, ho, hc, _, hd⟩, _⟩ := I.list hs
      refine g' ?_
      clear g' G'
      obtain ⟨as, hr⟩ := Dp.readsAll I ds _ its ha rv
      exact ⟨_, Reads.list ho hc hd hr⟩
  | .tuple ds, _, _, h, r => by
    cases h with
    | tup hs ha =>
      cases r
      refine bg fun G' g' => ?_
      obtain ⟨its, rv, ⟨o, ho, hc, n, hd⟩, _⟩ := I.tuple hs
      refine g' ?_
      clear g' G'
      obtain ⟨as, hr⟩ := Dp.readsAll I ds _ its ha rv
      exact ⟨_, Reads.tuple ho hc hd hr⟩
  | .dict _, _, _, h, _ => by cases h
theorem Dp.readsAll (I : Inv X pins σ H s) : ∀ (ds : List PyData) (vs : List V) (us : List Value), DpAll X.K H vs ds → Vals vs us → ∃ as, ReadsAll s.heap us ds as
  | [], _, _, h, r => by
    cases h
    cases r
    exact ⟨_, ReadsAll.nil⟩
  | d :: ds, _, _, h, r => by
    cases h with
    | cons h1 h2 =>
      cases r with
      | cons r1 r2 =>
        obtain ⟨as, q1⟩ := Dp.reads I d _ _ h1 r1
        obtain ⟨bs, q2⟩ := Dp.readsAll I ds _ _ h2 r2
        exact ⟨_, ReadsAll.cons q1 q2⟩
end
end
section
variable {X : Cx}
inductive rNeD (K : PySem.W.Frag) (x : V) (y : V) (H : Hp) (Q : VK) : Prop
  | mk (d : _) (e : _) (c_1 : Dp K H x d) (c_2 : Dp K H y e) (c_3 : SeqAt.shaped d = true) (c_4 : SeqAt.shaped e = true) (c_5 : Q (.bl (!PyData.eqv d e)) H)
theorem op_neD (hu : X.A.units + 64 < cLine) : OpR X (compareOp .NotEq) (rNeD X.K) := by
  intro pins s σ H x y v u Q I rx ry h
  refine bg fun G' g' => ?_
  obtain ⟨d, e, hd, he, sd, se, q⟩ := h
  refine g' ?_
  clear g' G'
  obtain ⟨as, r1⟩ := Dp.reads I d x v hd rx
  obtain ⟨bs, r2⟩ := Dp.reads I e y u he ry
  exact SeqAt.compareNe_shaped r1 r2 sd se hu ⟨.bl _, H, I, rfl, q⟩
end
end L2

namespace L2
open PySem PySem.Spec PyProof.Rows
abbrev CellAt (h : Heap) (c : Addr) (v : Option Value) : Prop := h.IsCell c v
def relS (scope sc : Scope) : Scope :=
  { scope with names := scope.names.map fun (n, k) => if (k == .free && sc.kind == .function && sc.names.lookup n == some .cell) then (n, .cell) else (n, k) }

def cloFrom (cells : List (Str × Addr)) : List (Str × NameKind) → List (Str × Addr) → List (Str × Addr)
  | [], acc => acc
  | (n, k) :: r, acc => if k == .free then cloFrom cells r ((n, (cells.lookup n).getD 0) :: acc) else cloFrom cells r acc

theorem closure_loop (env : Env) (f : Str × NameKind → List (Str × Addr) → Sem (ForInStep (List (Str × Addr))))
    (hf : ∀ n k c, f (n, k) c = if k == .free then (do let a ← cellOf env n; pure (.yield ((n, a) :: c))) else pure (.yield c)) :
    ∀ (names : List (Str × NameKind)) (acc : List (Str × Addr)), (∀ y ∈ names, y.2 = .free → ∃ c, env.cells.lookup y.1 = some c) → forIn names acc f = pure (cloFrom env.cells names acc)
  | [], acc, _ => by rw [List.forIn_nil]; rfl
  | (n, k) :: r, acc, h => by
    rw [List.forIn_cons, hf]
    have ih := fun acc => closure_loop env f hf r acc fun y hy => h y (List.mem_cons_of_mem _ hy)
    unfold cloFrom
    by_cases hk : (k == NameKind.free) = true
    · rw [if_pos hk, if_pos hk]
      obtain ⟨c, hc⟩ := h (n, k) List.mem_cons_self (by simpa using hk)
      have e : cellOf env n = pure c := by unfold cellOf; rw [hc]
      rw [e]
      have e2 : (env.cells.lookup n).getD 0 = c := by rw [hc]; rfl
      rw [e2]
      exact ih _
    · rw [if_neg hk, if_neg hk]
      exact ih _
theorem closure_ok {scope : Scope} {env : Env} (h : ∀ y ∈ scope.names, y.2 = .free → ∃ c, env.cells.lookup y.1 = some c) : closureFor scope env = pure (cloFrom env.cells scope.names []) := by
  simp only [closureFor]
  rw [closure_loop env _ (fun n k c => rfl) scope.names [] h]
  rfl

theorem mem_lookup {α : Type} : ∀ {l : List (Str × α)} {n : Str} {c : α}, (n, c) ∈ l → ∃ c', l.lookup n = some c'
  | (k, v) :: r, n, c, h => by
    rw [List.lookup_cons]
    cases hb : n == k with
    | true => exact ⟨_, rfl⟩
    | false =>
      rcases List.mem_cons.mp h with e | h
      · cases e; simp at hb
      · exact mem_lookup h

theorem cloFrom_mem {cells : List (Str × Addr)} : ∀ {names : List (Str × NameKind)} {acc : List (Str × Addr)} {n : Str} {c : Addr}, (n, c) ∈ cloFrom cells names acc → (n, c) ∈ acc ∨ ((n, .free) ∈ names ∧ c = (cells.lookup n).getD 0)
  | [], _, _, _, h => .inl h
  | (m, k) :: r, acc, n, c, h => by
    unfold cloFrom at h
    split at h
    · rename_i hk
      have hk : k = .free := by simpa using hk
      rcases cloFrom_mem h with h | ⟨h1, h2⟩
      · rcases List.mem_cons.mp h with e | h
        · cases e; exact .inr ⟨hk ▸ List.mem_cons_self, rfl⟩
        · exact .inl h
      · exact .inr ⟨List.mem_cons_of_mem _ h1, h2⟩
    · rcases cloFrom_mem h with h | ⟨h1, h2⟩
      · exact .inl h
      · exact .inr ⟨List.mem_cons_of_mem _ h1, h2⟩
theorem cloFrom_acc {cells : List (Str × Addr)} : ∀ {names : List (Str × NameKind)} {acc : List (Str × Addr)} {p : Str × Addr}, p ∈ acc → p ∈ cloFrom cells names acc
  | [], _, _, h => h
  | (m, k) :: r, acc, p, h => by
    unfold cloFrom
    split
    · exact cloFrom_acc (List.mem_cons_of_mem _ h)
    · exact cloFrom_acc h
theorem cloFrom_has {cells : List (Str × Addr)} : ∀ {names : List (Str × NameKind)} {acc : List (Str × Addr)} {n : Str}, (n, .free) ∈ names → (n, (cells.lookup n).getD 0) ∈ cloFrom cells names acc
  | (m, k) :: r, acc, n, h => by
    unfold cloFrom
    rcases List.mem_cons.mp h with e | h
    · cases e
      exact cloFrom_acc List.mem_cons_self
    · split
      · exact cloFrom_has h
      · exact cloFrom_has h

theorem cells_mem : ∀ {names : List (Str × NameKind)} {h : Heap} {acc : List (Str × Addr)} {x : Str} {c : Addr}, (x, c) ∈ cellsFrom h.objs.size names acc →
    (x, c) ∈ acc ∨ ((x, .cell) ∈ names ∧ h.objs.size ≤ c ∧ CellAt (pushCells h names) c none)
  | [], _, _, _, _, h => .inl h
  | (n, k) :: r, h, acc, x, c, hm => by
    unfold cellsFrom at hm
    unfold pushCells
    split at hm
    · rename_i hk
      rw [if_pos hk]
      have hk : k = .cell := by simpa using hk
      rw [← Heap.size_push h { cls := .type "cell", data := .cell none }] at hm
      rcases cells_mem hm with hm | ⟨h1, h2, h3⟩
      · rcases List.mem_cons.mp hm with e | hm
        · cases e
          exact .inr ⟨hk ▸ List.mem_cons_self, Nat.le_refl _, _, pushCells_keeps r _ _ _ (Heap.get?_push_size _ rfl), rfl⟩
        · exact .inl hm
      · rw [Heap.size_push] at h2
        exact .inr ⟨List.mem_cons_of_mem _ h1, Nat.le_of_succ_le h2, h3⟩
    · rename_i hk
      rw [if_neg hk]
      rcases cells_mem hm with hm | ⟨h1, h2, h3⟩
      · exact .inl hm
      · exact .inr ⟨List.mem_cons_of_mem _ h1, h2, h3⟩
theorem cells_acc : ∀ {names : List (Str × NameKind)} {n : Nat} {acc : List (Str × Addr)} {p : Str × Addr}, p ∈ acc → p ∈ cellsFrom n names acc
  | [], _, _, _, h => h
  | (m, k) :: r, n, acc, p, h => by
    unfold cellsFrom
    split
    · exact cells_acc (List.mem_cons_of_mem _ h)
    · exact cells_acc h
theorem cells_has : ∀ {names : List (Str × NameKind)} {n : Nat} {acc : List (Str × Addr)} {x : Str}, (x, .cell) ∈ names → ∃ c, (x, c) ∈ cellsFrom n names acc
  | (m, k) :: r, n, acc, x, h => by
    unfold cellsFrom
    rcases List.mem_cons.mp h with e | h
    · cases e
      exact ⟨n, cells_acc List.mem_cons_self⟩
    · split
      · exact cells_has h
      · exact cells_has h
theorem cells_inj : ∀ {names : List (Str × NameKind)} {h : Heap} {acc : List (Str × Addr)} {x y : Str} {c : Addr}, (∀ p ∈ acc, p.2 < h.objs.size) → (∀ x y c, (x, c) ∈ acc → (y, c) ∈ acc → x = y) →
    (x, c) ∈ cellsFrom h.objs.size names acc → (y, c) ∈ cellsFrom h.objs.size names acc → x = y
  | [], _, _, _, _, _, _, hi, h1, h2 => hi _ _ _ h1 h2
  | (n, k) :: r, h, acc, x, y, c, hl, hi, h1, h2 => by
    unfold cellsFrom at h1 h2
    split at h1
    · rename_i hk
      rw [if_pos hk] at h2
      rw [← Heap.size_push h { cls := .type "cell", data := .cell none }] at h1 h2
      refine cells_inj (h := h.push _) (fun p hp => ?_) (fun x y c a b => ?_) h1 h2
      · rw [Heap.size_push]
        rcases List.mem_cons.mp hp with rfl | hp
        · exact Nat.lt_succ_self _
        · exact Nat.lt_succ_of_lt (hl p hp)
      · rcases List.mem_cons.mp a with e | a <;> rcases List.mem_cons.mp b with e' | b
        · cases e; cases e'; rfl
        · cases e; exact absurd (hl _ b) (Nat.lt_irrefl _)
        · cases e'; exact absurd (hl _ a) (Nat.lt_irrefl _)
        · exact hi _ _ _ a b
    · rename_i hk
      rw [if_neg hk] at h2
      exact cells_inj hl hi h1 h2

theorem newEnv_comp {M : Model} {A : Around} {E : Value → Shared → Prop} {s : Shared} {scope : Scope} {globals : Addr} {closure : List (Str × Addr)} {qual : Str} {func : Option Addr} {code : Value} {around : Env} {builtins : Addr} {Q : Env → Shared → Prop}
    (h : Q (newEnv scope s.heap.objs.size globals (cellsFrom (s.heap.objs.size + 1) scope.names closure) qual func code (some around) builtins)
      { s with heap := pushCells (s.heap.push { cls := .type "dict", data := .dict #[] }) scope.names }) :
    wpAny M A (newFunctionEnv scope globals closure [] qual func code (some around) builtins) Q E s := by
  simp only [newFunctionEnv, Option.isSome_some, if_true]
  refine wpAny_bind (wpAny_alloc ?_)
  refine wpAny_bind (wpAny_layCells _ (fun n k c => rfl) scope.names closure _ _ ?_)
  rw [show ({ s with heap := s.heap.push { cls := .type "dict", data := .dict #[] } } : Shared).heap.objs.size = s.heap.objs.size + 1 from Heap.size_push ..]
  rw [List.forIn_nil]
  exact wpAny_bind (wpAny_pure (wpAny_pure h))

theorem lookup_relS {sc : Scope} : ∀ {names : List (Str × NameKind)} {x : Str} {k : NameKind},
    (names.map fun (n, k) => if (k == NameKind.free && sc.kind == .function && sc.names.lookup n == some .cell) then (n, NameKind.cell) else (n, k)).lookup x = some k →
    ∃ k', names.lookup x = some k' ∧ (k = k' ∨ (k' = .free ∧ k = .cell))
  | [], _, _, h => by simp at h
  | (n, k₀) :: r, x, k, h => by
    have ih := @lookup_relS sc r x k
    have h' : List.lookup x ((if (k₀ == NameKind.free && sc.kind == .function && sc.names.lookup n == some .cell) = true then (n, NameKind.cell) else (n, k₀)) :: (r.map _)) = some k := h
    cases hx : x == n with
    | true =>
      simp only [List.lookup_cons, hx]
      by_cases hc : (k₀ == NameKind.free && sc.kind == .function && sc.names.lookup n == some .cell) = true
      · rw [if_pos hc] at h'
        simp only [List.lookup_cons, hx] at h'
        cases h'
        simp only [Bool.and_eq_true, beq_iff_eq] at hc
        exact ⟨k₀, rfl, .inr ⟨hc.1.1, rfl⟩⟩
      · rw [if_neg hc] at h'
        simp only [List.lookup_cons, hx] at h'
        cases h'
        exact ⟨_, rfl, .inl rfl⟩
    | false =>
      simp only [List.lookup_cons, hx]
      by_cases hc : (k₀ == NameKind.free && sc.kind == .function && sc.names.lookup n == some .cell) = true
      · rw [if_pos hc] at h'
        simp only [List.lookup_cons, hx] at h'
        exact ih h'
      · rw [if_neg hc] at h'
        simp only [List.lookup_cons, hx] at h'
        exact ih h'



structure BlkOk (N : List Str) (sc scope : Scope) (own : List (Str × Nat)) : Prop where
  kind : scope.kind = .function
  uniq : ∀ y ∈ scope.names, scope.names.lookup y.1 = some y.2
  ix : ∀ p ∈ own, N[p.2]? = some p.1
  free : ∀ y ∈ scope.names, y.2 = .free → sc.names.lookup y.1 = some .cell ∨ sc.names.lookup y.1 = some .free
  own : ∀ y ∈ scope.names, y.2 = .local ∨ y.2 = .cell → y.1 ∈ own.map (·.1) ∨ y.1 ∉ N
def wipe (σ : St) : List Nat → St
  | [] => σ
  | v :: vs => (wipe σ vs).set v none
theorem wipe_length (σ : St) : ∀ vs : List Nat, (wipe σ vs).length = σ.length
  | [] => rfl
  | v :: vs => by unfold wipe; rw [List.length_set, wipe_length σ vs]
theorem wipe_some {σ : St} {i : Nat} {x : V} : ∀ {vs : List Nat}, (wipe σ vs)[i]? = some (some x) → σ[i]? = some (some x) ∧ i ∉ vs
  | [], h => ⟨h, by simp⟩
  | v :: vs, h => by
    unfold wipe at h
    by_cases hi : v = i
    · subst hi
      by_cases hv : v < (wipe σ vs).length
      · rw [List.getElem?_set_self hv] at h; cases h
      · rw [List.getElem?_eq_none (by simpa using hv)] at h; cases h
    · rw [List.getElem?_set_ne hi] at h
      obtain ⟨h1, h2⟩ := wipe_some h
      exact ⟨h1, by simp only [List.mem_cons, not_or]; exact ⟨fun e => hi e.symm, h2⟩⟩

abbrev Cx.blk (X : Cx) (s : Shared) (H : Hp) (scope : Scope) (cenv : Env) (fp : List Addr) : Cx := { X with s₀ := s, H₀ := H, env := cenv, outer := X.stack, ex := fp, fn := fun x => scope.names.lookup x == some .cell, pn := [], xe := fun _ _ => False }
section
variable {X : Cx} {pins : List (Addr × Obj)} {σ : St} {H : Hp} {s : Shared}
theorem block_start {scope : Scope} {own : List (Str × Nat)} {fp : List Addr} (I : Inv X pins σ H s) (ok : BlkOk X.N X.env.scope scope own) (hN : X.N.Nodup) (hfp : ∀ b ∈ fp, FpOk X pins H b ∧ b < s.heap.objs.size) :
    Inv (X.blk s H scope (compEnvC scope (cellsFrom (s.heap.objs.size + 1) scope.names (cloFrom X.env.cells scope.names [])) s.heap.objs.size X.env) fp) [] (wipe σ (own.map (·.2))) H { s with heap := pushCells (s.heap.push { cls := .type "dict", data := .dict #[] }) scope.names } := by
  have hfree : ∀ y ∈ scope.names, y.2 = .free → ∃ c, X.env.cells.lookup y.1 = some c := fun y hy e => by
    rcases ok.free y hy e with k | k
    · exact I.ok.has _ (.inl k)
    · exact I.ok.has _ (.inr k)
  generalize hcenv : compEnvC scope (cellsFrom (s.heap.objs.size + 1) scope.names (cloFrom X.env.cells scope.names [])) s.heap.objs.size X.env = cenv
  have kp : ∀ b o, s.heap.get? b = some o → (pushCells (s.heap.push { cls := .type "dict", data := .dict #[] }) scope.names).get? b = some o := fun b o e => pushCells_keeps _ _ _ _ (Heap.get?_push_of_some _ e)
  have hL : cenv.locals = s.heap.objs.size := by rw [← hcenv]; rfl
  have hcl : cenv.cells = cellsFrom (s.heap.objs.size + 1) scope.names (cloFrom X.env.cells scope.names []) := by rw [← hcenv]; rfl
  have hsc : cenv.scope = relS scope X.env.scope := by rw [← hcenv]; rfl
  rw [← Heap.size_push s.heap { cls := .type "dict", data := .dict #[] }] at hcl
  have cm : ∀ {y c}, (y, c) ∈ cloFrom X.env.cells scope.names [] → X.env.cells.lookup y = some c ∧ c < s.heap.objs.size := fun {y c} hm => by
    rcases cloFrom_mem hm with hm | ⟨h1, rfl⟩
    · cases hm
    · obtain ⟨c, hc⟩ := hfree _ h1 rfl
      rw [hc]
      obtain ⟨w, z⟩ := I.cell _ _ hc
      exact ⟨rfl, z.lt⟩
  have mem : ∀ {y c}, cenv.cells.lookup y = some c → (X.env.cells.lookup y = some c ∧ c < s.heap.objs.size) ∨ (s.heap.objs.size + 1 ≤ c ∧ CellAt (pushCells (s.heap.push { cls := .type "dict", data := .dict #[] }) scope.names) c none) := fun {y c} e => by
    rw [hcl] at e
    rcases cells_mem (PySem.mem_of_lookup e) with hm | ⟨_, h2, h3⟩
    · exact .inl (cm hm)
    · rw [Heap.size_push] at h2; exact .inr ⟨h2, h3⟩
  have look : ∀ {y}, scope.names.lookup y = some .free → ∃ c, cenv.cells.lookup y = some c ∧ X.env.cells.lookup y = some c := fun {y} hl => by
    have hy : (y, NameKind.free) ∈ scope.names := PySem.mem_of_lookup hl
    obtain ⟨c', e'⟩ := mem_lookup (cells_acc (names := scope.names) (n := (s.heap.push { cls := .type "dict", data := .dict #[] }).objs.size) (cloFrom_has (cells := X.env.cells) (acc := []) hy))
    rw [← hcl] at e'
    refine ⟨c', e', ?_⟩
    rw [hcl] at e'
    rcases cells_mem (PySem.mem_of_lookup e') with hm | ⟨h1, _, _⟩
    · exact (cm hm).1
    · have := ok.uniq _ h1
      rw [hl] at this; cases this
  have okB : (X.blk s H scope cenv fp).Ok := by
    refine ⟨I.ok.mod, by show cenv.scope.kind = _; rw [hsc]; exact ok.kind, by show cenv.globals = _; rw [← hcenv]; exact I.ok.glob, by show cenv.builtins = _; rw [← hcenv]; exact I.ok.blt, by show s.heap.objs.size ≤ cenv.locals; rw [hL]; exact Nat.le_refl _,
      fun y z c e1 e2 => ?_, fun y hy => ?_, fun y c z e => ?_, I.ok.hd, I.ok.frames, .inl rfl, fun b hb => ⟨?_, fun y c e z => ?_⟩, I.bs, Nat.le_trans I.ok.bsz I.sz, fun b o e hb => ?_, fun b hb z => ?_, I.stack, I.stkFree⟩
    · have e1 : cenv.cells.lookup y = some c := e1
      have e2 : cenv.cells.lookup z = some c := e2
      rw [hcl] at e1 e2
      refine cells_inj (fun p hp => ?_) (fun y z c a b => I.ok.inj y z c (cm a).1 (cm b).1) (PySem.mem_of_lookup e1) (PySem.mem_of_lookup e2)
      rw [Heap.size_push]
      exact Nat.lt_succ_of_lt (cm (y := p.1) (c := p.2) hp).2
    · show ∃ c, cenv.cells.lookup y = some c
      have key : ∀ k, cenv.kindOf y = some k → (k = .cell ∨ k = .free) → ∃ c, cenv.cells.lookup y = some c := fun k hk hk' => by
        unfold Env.kindOf at hk
        rw [hsc] at hk
        refine bg fun G' g' => ?_
        obtain ⟨k', e, r⟩ := lookup_relS hk
        refine g' ?_
        clear g' G'
        have : k' = .cell ∨ k' = .free := by
          rcases r with rfl | ⟨rfl, _⟩
          · exact hk'
          · exact .inr rfl
        rcases this with rfl | rfl
        · obtain ⟨c, hm⟩ := cells_has (n := (s.heap.push { cls := .type "dict", data := .dict #[] }).objs.size) (acc := cloFrom X.env.cells scope.names []) (PySem.mem_of_lookup e)
          obtain ⟨c', e'⟩ := mem_lookup hm
          exact ⟨c', by rw [hcl]; exact e'⟩
        · refine bg fun G' g' => ?_
          obtain ⟨c, h1, _⟩ := look e
          refine g' ?_
          clear g' G'
          exact ⟨c, h1⟩
      rcases hy with hy | hy
      · exact key _ hy (.inl rfl)
      · exact key _ hy (.inr rfl)
    · have z : (scope.names.lookup y == some NameKind.cell) = true := z
      have z : scope.names.lookup y = some .cell := by simpa using z
      have e : cenv.cells.lookup y = some c := e
      rw [hcl] at e
      rcases cells_mem (PySem.mem_of_lookup e) with hm | ⟨_, h2, _⟩
      · rcases cloFrom_mem hm with hm | ⟨h1, _⟩
        · cases hm
        · have q := ok.uniq _ h1
          rw [z] at q; cases q
      · rw [Heap.size_push] at h2
        exact Nat.le_of_succ_le h2
    · show b ≠ cenv.locals
      rw [hL]; exact Nat.ne_of_lt (hfp b hb).2
    · have e : cenv.cells.lookup y = some c := e
      rcases mem e with ⟨h1, _⟩ | ⟨h1, _⟩
      · exact (hfp b hb).1.2.2.2.2.1 y c h1 z
      · have h2 : s.heap.objs.size + 1 ≤ b := by rw [← z]; exact h1
        exact absurd (Nat.lt_of_lt_of_le (hfp b hb).2 (Nat.le_of_succ_le h2)) (Nat.lt_irrefl _)
    · rcases (hfp b hb).1.2.2.2.1 with z | z
      · exact I.ok.noex b o e z
      · exact absurd (Nat.lt_of_lt_of_le (Heap.lt_size e) (Nat.le_trans I.ok.bsz z)) (Nat.lt_irrefl _)
    · rcases List.mem_cons.mp (I.stkSub b z) with z | z
      · exact (hfp b hb).1.2.1 z
      · exact (hfp b hb).1.2.2.1 z
  refine ⟨okB, rfl, I.bare, Un.kept kp, ⟨fun _ => none, ?_, fun i y av e1 e2 e3 => ?_⟩, fun y c e => ?_, ?_, fun y c e => ?_, fun p hp => ?_, I.hok.kept kp, by rw [wipe_length]; exact I.len⟩
  · show Heap.Ns _ cenv.locals _
    rw [hL]
    exact Heap.Ns.keeps (Heap.Ns.new ..) fun b o e => pushCells_keeps _ _ _ _ e
  · obtain ⟨e2, hne⟩ := wipe_some e2
    have hfr : scope.names.lookup y = some .free ∧ (cenv.kindOf y = some .cell ∨ cenv.kindOf y = some .free) := by
      have key : ∀ k, cenv.scope.names.lookup y = some k → k = .local ∨ k = .cell ∨ k = .free → scope.names.lookup y = some .free ∧ (cenv.kindOf y = some .cell ∨ cenv.kindOf y = some .free) := fun k hk hk' => by
        have hk0 := hk
        rw [hsc] at hk
        refine bg fun G' g' => ?_
        obtain ⟨k', e, r⟩ := lookup_relS hk
        refine g' ?_
        clear g' G'
        have no : ¬ (k' = .local ∨ k' = .cell) := fun hh => by
          rcases ok.own _ (PySem.mem_of_lookup e) hh with e' | e'
          · refine bg fun G' g' => ?_
            obtain ⟨p, hp, hpy⟩ := List.mem_map.mp e'
            refine g' ?_
            clear g' G'
            have e3 := ok.ix p hp
            have : p.1 = y := hpy
            rw [this] at e3
            exact hne (List.mem_map.mpr ⟨p, hp, nodup_ix hN e3 e1⟩)
          · exact e' (List.mem_of_getElem? e1)
        rcases r with rfl | ⟨rfl, rfl⟩
        · rcases hk' with rfl | rfl | rfl
          · exact absurd (.inl rfl) no
          · exact absurd (.inr rfl) no
          · exact ⟨e, .inr hk0⟩
        · exact ⟨e, .inl hk0⟩
      have e3 : Vis cenv.scope y := e3
      rcases e3 with e3 | e3 | e3
      · exact key _ e3 (.inl rfl)
      · exact key _ e3 (.inr (.inl rfl))
      · exact key _ e3 (.inr (.inr rfl))
    refine bg fun G' g' => ?_
    obtain ⟨m, hn, hl⟩ := I.loc
    refine g' ?_
    clear g' G'
    have hvis : Vis X.env.scope y := (ok.free _ (PySem.mem_of_lookup hfr.1) rfl).elim (fun k => .inr (.inl k)) (fun k => .inr (.inr k))
    refine bg fun G' g' => ?_
    obtain ⟨w, r, q⟩ := hl i y av e1 e2 hvis
    refine g' ?_
    clear g' G'
    refine ⟨w, r, .inr ⟨hfr.2, ?_⟩⟩
    refine bg fun G' g' => ?_
    obtain ⟨c, h1, h2⟩ := look hfr.1
    refine g' ?_
    clear g' G'
    rcases q with ⟨k, _⟩ | ⟨_, c', e', z⟩
    · have k : X.env.scope.names.lookup y = some .local := k
      rcases ok.free _ (PySem.mem_of_lookup hfr.1) rfl with k' | k' <;> rw [show X.env.scope.names.lookup y = _ from k'] at k <;> cases k
    · rw [h2] at e'; cases e'
      exact ⟨c, h1, z.keeps kp⟩
  · have e : cenv.cells.lookup y = some c := e
    rcases mem e with ⟨h1, _⟩ | ⟨_, z⟩
    · obtain ⟨w, z⟩ := I.cell y c h1
      exact ⟨w, z.keeps kp⟩
    · exact ⟨_, z⟩
  · show H cenv.locals = none
    rw [hL]; exact I.hok.fresh (Nat.le_refl _)
  · have e : cenv.cells.lookup y = some c := e
    rcases mem e with ⟨h1, _⟩ | ⟨h1, _⟩
    · exact I.freeC y c h1
    · exact I.hok.fresh (Nat.le_of_succ_le h1)
  · exact absurd (show p ∈ ([] : List (Addr × Obj)) ++ [] from hp) (by simp)

theorem app_ok {E : Value → Shared → Prop} {D : Addr} {xs : List V} {y : V} {v : Value} {Q : Value → Shared → Prop} (I : Inv X pins σ H s) (hD : H D = some (.lst xs)) (hz : xs.length < sizeLine) (r : RelV y v)
    (h : ∀ s', Inv X pins σ (upd H D (.lst (xs ++ [y]))) s' → Q .none s') : wpAny (model X.prog X.w) X.A (call (.builtin "list.append") [.ref D, v]) Q E s := by
  refine bg fun G' g' => ?_
  obtain ⟨hz', its, n, ri, e⟩ := I.hok D _ hD
  refine g' ?_
  clear g' G'
  have hl := ri.length
  refine append_at (hsz := by rw [List.size_toArray]; omega) e fun h' sb ho' => ?_
  refine h { s with heap := h' } (I.write (t' := s.toks) (by rw [hD]; trivial) (.inl rfl) (fun b u hb q => (sb.2 b hb).trans q) ⟨_, ho'⟩ ⟨by rw [List.length_append]; exact hz, its ++ [v], n + 1, ri.append (.cons r .nil), ?_⟩)
  rw [ho']
  simp

def PTs (X : Cx) (ifs : List Expr) (t : TT) : Prop :=
  ∀ (pins : List (Addr × Obj)) (s : Shared) (σ : St) (H : Hp) (Q : Bool → Hp → Prop), Inv X pins σ H s → t σ H Q →
    wpAny (model X.prog X.w) X.A (forIn ifs true fun c r => if r = true then do let ok ← isTrue c X.env (eval c X.env); pure (ForInStep.yield ok) else pure (ForInStep.yield r)) (TP X pins σ Q) X.xe s
def tYes : TT := fun _ H Q => Q true H
theorem pts_nil : PTs X [] tYes := fun _ _ _ H _ I h => wpAny_tests_nil ⟨H, I, h⟩
theorem pts_one {c : Expr} {t : TT} (h : PT X c t) : PTs X [c] t := fun pins s σ H Q I hw => wpAny_tests_one (h pins s σ H Q I hw)
end

theorem thnF {α : Type} {t : Sem α} {Q Q' : α → Shared → Prop} {M : Model} {A : Around} {E : Value → Shared → Prop} {s : Shared} (h : wpAny M A t Q (fun _ _ => False) s) (hQ : ∀ a s, Q a s → Q' a s) : wpAny M A t Q' E s := wpAny_mono h hQ fun _ _ z => False.elim z

theorem compLoop_any {prog : Program} {w : World} {A : Around} {R : Result → Shared → Prop} {s : Shared} {elt target iter : Expr} {ifs : List Expr} {scope : Scope} {pos : Pos} {it acc : Value} {env : Env} (I : Nat → Shared → Prop)
    (turn : ∀ n s, I n s → wpAny (model prog w) A (pyNext it) (fun r s₁ => match r with
      | none => R (.ok .next) s₁
      | some v => wpAny (model prog w) A (letOwnedTupleGo target it v) (fun _ s₁' => wpAny (model prog w) A (assign target env v) (fun _ s₂ =>
          wpAny (model prog w) A (forIn ifs true fun c r => if r = true then do let ok ← isTrue c env (eval c env); pure (ForInStep.yield ok) else pure (ForInStep.yield r)) (fun ok s₃ =>
            if ok = true then wpAny (model prog w) A (eval elt env) (fun x s₄ =>
              wpAny (model prog w) A (call (.builtin "list.append") [acc, x]) (fun _ s₅ => ∃ m, m < n ∧ I m s₅) (notedBy (model prog w) A env fun e s' => R (.error e) s') s₄) (notedBy (model prog w) A env fun e s' => R (.error e) s') s₃
            else ∃ m, m < n ∧ I m s₃) (notedBy (model prog w) A env fun e s' => R (.error e) s') s₂) (notedBy (model prog w) A env fun e s' => R (.error e) s') s₁') (notedBy (model prog w) A env fun e s' => R (.error e) s') s₁) (notedBy (model prog w) A env fun e s' => R (.error e) s') s)
    (n : Nat) (h : I n s) :
    codeAny (model prog w) A (.compLoop (.ListComp elt [⟨target, iter, ifs, 0⟩] scope pos) 0 it acc env) R s := by
  refine codeAny_loop rfl I (fun n s hI => ?_) n h
  show wpAny _ A ((compTurn (.ListComp elt [⟨target, iter, ifs, 0⟩] scope pos) 0 it acc env).onRaise (fun x => do noteFrame x env; theTreesLotGoes x)) _ _ s
  refine wpAny_noted ?_
  rw [compTurn_list]
  refine wpAny_bind (wpAny_standAt (wpAny_bind (wpAny_mono (turn n s hI) (fun r s₁ h₁ => ?_) fun _ _ h' => h')))
  cases r with
  | none => exact wpAny_pure h₁
  | some v =>
    refine wpAny_bind (wpAny_mono h₁ (fun _ s₁' h₁' => ?_) fun _ _ h' => h')
    refine wpAny_bind (wpAny_mono h₁' (fun _ s₂ h₂ => wpAny_bind (wpAny_mono h₂ (fun ok s₃ h₃ => ?_) fun _ _ h' => h')) fun _ _ h' => h')
    cases ok with
    | false => exact wpAny_pure ⟨rfl, h₃⟩
    | true =>
      exact wpAny_bind (wpAny_bind (wpAny_mono h₃ (fun x s₄ h₄ => wpAny_bind (wpAny_mono h₄ (fun _ s₅ h₅ => wpAny_pure (wpAny_pure ⟨rfl, h₅⟩)) fun _ _ h' => h')) fun _ _ h' => h'))

section
variable {X : Cx}
def tLc (wi : TI) (g : TG) (tt : TT) (te : TE) (vs : List Nat) : TE := fun σ H Q => wi σ H fun J H1 => ∀ D, H1 D = none → ∃ W : Nat → Nat → Hp → Prop, (∃ m, W 0 m (upd H1 D (.lst []))) ∧ ∀ i m H, W i m H →
  (J.stop i H ∧ Q (.ref D) H) ∨ (J.go i H ∧ ∃ Nx : Hp → Prop, (∀ H', Nx H' → ∃ m', m' < m ∧ W (i + 1) m' H') ∧ ∀ x H', J.yld i H x H' → g x (wipe σ vs) H' fun σ2 H2 => wipe σ2 vs = wipe σ vs ∧ tt σ2 H2 fun b H3 =>
    if b = true then te σ2 H3 fun y H4 => ∃ acc, H4 D = some (.lst acc) ∧ acc.length < sizeLine ∧ Nx (upd H4 D (.lst (acc ++ [y]))) else Nx H3)
theorem lc_core {pins : List (Addr × Obj)} {s : Shared} {σ : St} {H : Hp} {Q : VK} {elt tg iter : Expr} {ifs : List Expr} {scope : Scope} {own : List (Str × Nat)} {pos pos' : Pos} {wi : TI} {g : TG} {tt : TT} {te : TE} {use : Option (Value → Sem Unit)} {Qf : Value → Shared → Prop}
    (hc : X.calm = true) (hN : X.N.Nodup) (I : Inv X pins σ H s) (hi : PI X tg iter wi) (ok : BlkOk X.N X.env.scope scope own)
    (hg : ∀ (s : Shared) (H : Hp) (C : Addr) (cl : List (Str × Addr)) (fp : List Addr), PG (X.blk s H scope (compEnvC scope cl C X.env) fp) tg g) (ht : ∀ (s : Shared) (H : Hp) (C : Addr) (cl : List (Str × Addr)) (fp : List Addr), PTs (X.blk s H scope (compEnvC scope cl C X.env) fp) ifs tt)
    (he : ∀ (s : Shared) (H : Hp) (C : Addr) (cl : List (Str × Addr)) (fp : List Addr), PE (X.blk s H scope (compEnvC scope cl C X.env) fp) elt te) (hs : ∀ x, foldedSetIterable iter X.env x = pure x)
    (h : tLc wi g tt te (own.map (·.2)) σ H Q)
    (hRR : ∀ D C s' m H', Inv X pins σ H' s' → Q (.ref D) H' → s'.heap.Ns C m → FpOk X pins H' C → compPost (model X.prog X.w) X.A X.xe use Qf (.ref D) C (.ok .next) s') :
    wpAny (model X.prog X.w) X.A (comprehension (.ListComp elt [⟨tg, iter, ifs, 0⟩] scope pos) scope X.env pos' (newList []) false (eval iter X.env) use) Qf X.xe s := by
  have hfree : ∀ y ∈ scope.names, y.2 = .free → ∃ c, X.env.cells.lookup y.1 = some c := fun y hy e => by
    rcases ok.free y hy e with k | k
    · exact I.ok.has _ (.inl k)
    · exact I.ok.has _ (.inr k)
  refine wpAny_comprehension_free (use := use) rfl hs (closure_ok hfree) ok.kind (fun y hy e => by rw [ok.uniq y hy, e])
    (thn (hi pins s σ H _ I h) fun xv s1 hx => thn hx fun itv s2 h2 => ?_)
  refine bg fun G' g' => ?_
  obtain ⟨it, fp, tn, J, H2, e, I2, T, st2, f2, q⟩ := h2
  refine g' ?_
  clear g' G'
  subst e
  refine wpAny_newObj_type (newEnv_comp ?_) (by show 0 ≤ sizeLine; decide)
  generalize hD : s2.heap.objs.size = D
  have hDn : H2 D = none := I2.hok.fresh (Nat.le_of_eq hD)
  refine bg fun G' g' => ?_
  obtain ⟨W, ⟨m0, w0⟩, turn⟩ := q D hDn
  refine g' ?_
  clear g' G'
  -- the new list
  generalize hs3 : ({ s2 with heap := s2.heap.push { cls := .type "list", data := .seq ([] : List Value).toArray } } : Shared) = s3
  have I3 : Inv X pins σ (upd H2 D (.lst [])) s3 := by
    rw [← hs3]
    refine I2.laid (t' := s2.toks) (fun b o e => Heap.get?_push_of_some _ e) (Nat.le_of_eq hD) ⟨Nat.zero_le _, [], 0, .nil, ?_⟩
    rw [← hD]
    exact Heap.get?_push_size _ rfl
  have h3 : s3.heap = s2.heap.push { cls := .type "list", data := .seq ([] : List Value).toArray } := by rw [← hs3]
  have sz : ∀ b ∈ fp, b < s2.heap.objs.size := fun b hb => by
    refine bg fun G' g' => ?_
    obtain ⟨o, e, _⟩ := T.obj _ _ st2 b hb
    refine g' ?_
    clear g' G'
    exact Heap.lt_size e
  have f3 : ∀ b ∈ fp, FpOk X pins (upd H2 D (.lst [])) b ∧ b < s3.heap.objs.size := fun b hb => by
    have hlt := sz b hb
    refine ⟨⟨?_, (f2 b hb).2⟩, by rw [h3, Heap.size_push]; exact Nat.lt_succ_of_lt hlt⟩
    rw [upd_ne (by rw [← hD]; exact Nat.ne_of_lt hlt)]
    exact (f2 b hb).1
  have st3 : tn 0 s3.heap := T.keep _ _ _ st2 fun b _ o e => by rw [h3]; exact Heap.get?_push_of_some _ e
  have I4 := block_start I3 ok hN f3
  have pg := hg s3 (upd H2 D (.lst [])) s3.heap.objs.size (cellsFrom (s3.heap.objs.size + 1) scope.names (cloFrom X.env.cells scope.names [])) fp
  have pt := ht s3 (upd H2 D (.lst [])) s3.heap.objs.size (cellsFrom (s3.heap.objs.size + 1) scope.names (cloFrom X.env.cells scope.names [])) fp
  have pe := he s3 (upd H2 D (.lst [])) s3.heap.objs.size (cellsFrom (s3.heap.objs.size + 1) scope.names (cloFrom X.env.cells scope.names [])) fp
  show codeAny _ _ (.compStart (.ListComp elt [⟨tg, iter, ifs, 0⟩] scope pos) 0 (.ref it) (.ref D) (compEnvC scope (cellsFrom (s3.heap.objs.size + 1) scope.names (cloFrom X.env.cells scope.names [])) s3.heap.objs.size X.env)) (compPost (model X.prog X.w) X.A X.xe use Qf (.ref D) s3.heap.objs.size) { s3 with heap := pushCells (s3.heap.push { cls := .type "dict", data := .dict #[] }) scope.names }
  have nfp : ∀ b ∈ fp, (upd H2 D (.lst [])) b = none := fun b hb => (f3 b hb).1.1
  generalize hce : compEnvC scope (cellsFrom (s3.heap.objs.size + 1) scope.names (cloFrom X.env.cells scope.names [])) s3.heap.objs.size X.env = ce at I4 pg pt pe ⊢
  have cL : ce.locals = s3.heap.objs.size := by subst hce; rfl
  generalize hH3 : upd H2 D (.lst []) = H3 at I3 I4 pg pt pe w0 nfp f3
  generalize hs4 : ({ s3 with heap := pushCells (s3.heap.push { cls := .type "dict", data := .dict #[] }) scope.names } : Shared) = s4 at I4 ⊢
  have st4 : tn 0 s4.heap := T.keep _ _ _ st3 fun b _ o e => by rw [← hs4]; exact pushCells_keeps _ _ _ _ (Heap.get?_push_of_some _ e)
  have stat : ∀ {σ' : St} {H' : Hp} {s' : Shared}, Inv (X.blk s3 H3 scope ce fp) [] σ' H' s' → (∀ b ∈ fp, H' b = none) → ∀ b ∈ fp, FpOk (X.blk s3 H3 scope ce fp) [] H' b := fun {σ' H' s'} I' hn b hb =>
    ⟨hn b hb, (I'.ok.exf b hb).1, I'.ok.exfs b hb, .inl hb, fun x c e => (I'.ok.exf b hb).2 x c e, fun p hp => absurd (show p ∈ ([] : List (Addr × Obj)) ++ [] from hp) (by simp)⟩
  have loop : codeAny (model X.prog X.w) X.A (.compLoop (.ListComp elt [⟨tg, iter, ifs, 0⟩] scope pos) 0 (.ref it) (.ref D) ce) (compPost (model X.prog X.w) X.A X.xe use Qf (.ref D) s3.heap.objs.size) s4 := by
    refine compLoop_any (fun n s' => ∃ i H', Inv (X.blk s3 H3 scope ce fp) [] (wipe σ (own.map (·.2))) H' s' ∧ tn i s'.heap ∧ (∀ b ∈ fp, H' b = none) ∧ W i n H') ?_ m0 ⟨0, H3, I4, st4, nfp, w0⟩
    intro n s5 h'
    refine bg fun G' g' => ?_
    obtain ⟨i, H5, I5, st5, n5, w5⟩ := h'
    refine g' ?_
    clear g' G'
    rcases turn i n H5 w5 with ⟨stop, qq⟩ | ⟨go, Nx, hNx, step⟩
    · have td := T.done (X.blk s3 H3 scope ce fp) rfl rfl rfl hc i [] s5 _ H5 (fun _ _ => False) I5 (stat I5 n5) st5 stop
      refine thnF td fun r s6 ⟨hr, I6⟩ => ?_
      subst hr
      -- back in the def's context
      have I7 : Inv X pins σ H5 s6 := I3.call' (ch := fp) I6.os I6.base I6.hok I6.bare fun b hb => ⟨(f3 b hb).1.2.2.2.1, (f3 b hb).1.2.1, (f3 b hb).1.2.2.2.2.1, (f3 b hb).1.2.2.2.2.2⟩
      have nC : H5 s3.heap.objs.size = none := by
        have z : H5 ce.locals = none := I6.free
        rw [cL] at z
        exact z
      refine bg fun G' g' => ?_
      obtain ⟨m, hn, _⟩ := I6.loc
      refine g' ?_
      clear g' G'
      have hn : s6.heap.Ns ce.locals m := hn
      rw [cL] at hn
      exact hRR D s3.heap.objs.size s6 m H5 I7 qq hn (I3.fpOk (Nat.le_refl _) nC)
    · have ti := T.item (X.blk s3 H3 scope ce fp) rfl rfl rfl hc i [] s5 _ H5 (fun _ _ => False) I5 (stat I5 n5) st5 go
      refine thnF ti fun r s6 ⟨u, hr, h6⟩ => ?_
      subst hr
      refine thnF h6 fun _ s7 ⟨x, H7, I7, r7, y7, st7, n7⟩ => ?_
      have I7' := I7.pinned (stat I7 n7) (T.obj _ _ st7)
      refine thnF (pg _ s7 _ H7 x u _ I7' r7 (step x H7 y7)) fun _ s8 ⟨σ8, H8, I8, hw8, q8⟩ => ?_
      refine thnF (pt _ s8 σ8 H8 _ I8 q8) fun b s9 ⟨H9, I9, q9⟩ => ?_
      -- the turn's end
      have fin : ∀ {s' : Shared} {H' : Hp}, Inv (X.blk s3 H3 scope ce fp) ([] ++ pinsAt fp s7.heap) σ8 H' s' → Nx H' → ∃ m, m < n ∧ ∃ i H', Inv (X.blk s3 H3 scope ce fp) [] (wipe σ (own.map (·.2))) H' s' ∧ tn i s'.heap ∧ (∀ b ∈ fp, H' b = none) ∧ W i m H' := fun {s' H'} I' nx => by
        refine bg fun G' g' => ?_
        obtain ⟨m', hm, w'⟩ := hNx H' nx
        refine g' ?_
        clear g' G'
        have pin' : ∀ b ∈ fp, ∀ o, s7.heap.get? b = some o → s'.heap.get? b = some o ∧ H' b = none := fun b hb o e =>
          let z := I'.pin (b, o) (List.mem_append_right _ (List.mem_append_right _ (mem_pinsAt hb e)))
          ⟨z.1, z.2.1⟩
        have hl : (wipe σ (own.map (·.2))).length = σ8.length := by rw [← hw8, wipe_length]
        refine ⟨m', hm, i + 1, H', (I'.unpinned (pins := [])).weak hl (fun j v e => ?_), T.keep _ _ _ st7 fun b hb o e => (pin' b hb o e).1, fun b hb => ?_, w'⟩
        · rw [← hw8] at e
          exact (wipe_some e).1
        · refine bg fun G' g' => ?_
          obtain ⟨o, e, _⟩ := T.obj _ _ st7 b hb
          refine g' ?_
          clear g' G'
          exact (pin' b hb o e).2
      cases b with
      | false =>
        simp only [Bool.false_eq_true, if_false] at q9 ⊢
        exact fin I9 q9
      | true =>
        simp only [if_true] at q9 ⊢
        refine thnF (pe _ s9 σ8 H9 _ I9 q9) fun z s10 ⟨yv, H10, I10, r10, acc, hD10, hz10, nx⟩ => ?_
        exact app_ok (X := X.blk s3 H3 scope ce fp) I10 hD10 hz10 r10 fun s11 I11 => fin I11 nx
  exact codeAny_compStart_list loop (T.self X.A 0 _ _ _ st4 loop)
theorem pe_lc {elt tg iter : Expr} {ifs : List Expr} {scope : Scope} {own : List (Str × Nat)} {pos : Pos} {wi : TI} {g : TG} {tt : TT} {te : TE} (hc : X.calm = true) (hN : X.N.Nodup) (hi : PI X tg iter wi) (ok : BlkOk X.N X.env.scope scope own)
    (hg : ∀ (s : Shared) (H : Hp) (C : Addr) (cl : List (Str × Addr)) (fp : List Addr), PG (X.blk s H scope (compEnvC scope cl C X.env) fp) tg g) (ht : ∀ (s : Shared) (H : Hp) (C : Addr) (cl : List (Str × Addr)) (fp : List Addr), PTs (X.blk s H scope (compEnvC scope cl C X.env) fp) ifs tt)
    (he : ∀ (s : Shared) (H : Hp) (C : Addr) (cl : List (Str × Addr)) (fp : List Addr), PE (X.blk s H scope (compEnvC scope cl C X.env) fp) elt te) (hs : ∀ x, foldedSetIterable iter X.env x = pure x := by intro _; rfl) :
    PE X (.ListComp elt [⟨tg, iter, ifs, 0⟩] scope pos) (tLc wi g tt te (own.map (·.2))) := by
  intro pins s σ H Q I h
  rw [eval_ListComp]
  refine lc_core hc hN I hi ok hg ht he hs h fun D C s' m H' I' q hn f => ⟨m, hn, fun h'' sb => ?_⟩
  refine bg fun G' g' => ?_
  obtain ⟨f0, f1, f2, f3, f4, f5⟩ := f
  refine g' ?_
  clear g' G'
  exact ⟨.ref D, H', I'.turned (t' := s'.toks) (fun b o hb e => (sb.2 b hb).trans e) f0 f1 f3 f4 f5, rfl, q⟩
theorem sw_true {elt : Expr} {gs : List Comprehension} {scope : Scope} {pos py : Pos} {y : Str} {l : Nat} {env : Env} (hk : env.scope.kind = .function) (hy : env.scope.names.lookup y = some .local) (hl : (py.line == pos.line) = true)
    (ha : (scope.names.any fun (n, k) => n == y && (k == .local || k == .cell)) = false) : swapsWith (.ListComp elt gs scope pos) (some (.Name y py)) l env = pure true := by
  have ky : env.kindOf y = some .local := hy
  have hb : env.blockKind = .function := by unfold Env.blockKind; rw [hk]; rfl
  unfold swapsWith
  have hp1 : (Expr.ListComp elt gs scope pos).pos = pos := rfl
  have hp2 : (Expr.Name y py).pos = py := rfl
  simp only [hb, ky, ha, hp1, hp2, hl]
  rfl
end

theorem lc_list {K : PySem.W.Frag} {a : Addr} {xs : List V} {g : TG} {tt : TT} {te : TE} {vs : List Nat} {σ : St} {H1 : Hp} {D : Addr} {Qd : Hp → Prop} (Pv : Nat → Hp → Prop) (h0 : Pv 0 (upd H1 D (.lst []))) (hl : ∀ i H, i ≤ xs.length → Pv i H → SqL K H a xs)
    (hs : ∀ i x H, xs[i]? = some x → Pv i H → g x (wipe σ vs) H fun σ2 H2 => wipe σ2 vs = wipe σ vs ∧ tt σ2 H2 fun b H3 =>
      if b = true then te σ2 H3 fun y H4 => ∃ acc, H4 D = some (.lst acc) ∧ acc.length < sizeLine ∧ Pv (i + 1) (upd H4 D (.lst (acc ++ [y]))) else Pv (i + 1) H3) (hd : ∀ H, Pv xs.length H → Qd H) :
    ∃ W : Nat → Nat → Hp → Prop, (∃ m, W 0 m (upd H1 D (.lst []))) ∧ ∀ i m H, W i m H →
      ((Itl K a).stop i H ∧ Qd H) ∨ ((Itl K a).go i H ∧ ∃ Nx : Hp → Prop, (∀ H', Nx H' → ∃ m', m' < m ∧ W (i + 1) m' H') ∧ ∀ x H', (Itl K a).yld i H x H' → g x (wipe σ vs) H' fun σ2 H2 => wipe σ2 vs = wipe σ vs ∧ tt σ2 H2 fun b H3 =>
        if b = true then te σ2 H3 fun y H4 => ∃ acc, H4 D = some (.lst acc) ∧ acc.length < sizeLine ∧ Nx (upd H4 D (.lst (acc ++ [y]))) else Nx H3) := by
  refine ⟨fun i m H => m = xs.length - i ∧ i ≤ xs.length ∧ Pv i H, ⟨xs.length, by simp, Nat.zero_le _, h0⟩, ?_⟩
  intro i m H h'
  refine bg fun G' g' => ?_
  obtain ⟨rfl, hi, p⟩ := h'
  refine g' ?_
  clear g' G'
  have q := hl i H hi p
  by_cases hlt : i < xs.length
  · refine .inr ⟨⟨xs, xs[i], q, by simp [hlt]⟩, Pv (i + 1), fun H' p' => ⟨xs.length - (i + 1), by omega, rfl, hlt, p'⟩, fun x H' y => ?_⟩
    obtain ⟨e, y⟩ := y
    subst e
    exact hs i x _ (y xs q) p
  · have e : i = xs.length := by omega
    subst e
    exact .inl ⟨⟨xs, q, Nat.le_refl _⟩, hd H p⟩
def blkC (N : List Str) (sc scope : Scope) (own : List (Str × Nat)) : Bool :=
  (match scope.kind with | .function => true | _ => false) && (scope.names.all fun y => decide (scope.names.lookup y.1 = some y.2)) && (own.all fun p => decide (N[p.2]? = some p.1)) &&
    (scope.names.all fun y => match y.2 with
      | .free => (match sc.names.lookup y.1 with | some .cell => true | some .free => true | _ => false)
      | .local => decide (y.1 ∈ own.map (·.1)) || decide (y.1 ∉ N)
      | .cell => decide (y.1 ∈ own.map (·.1)) || decide (y.1 ∉ N)
      | _ => true)
theorem blkOk_by {N : List Str} {sc scope : Scope} {own : List (Str × Nat)} (h : blkC N sc scope own = true) : BlkOk N sc scope own := by
  unfold blkC at h
  simp only [Bool.and_eq_true, List.all_eq_true, decide_eq_true_eq] at h
  refine bg fun G' g' => ?_
  obtain ⟨⟨⟨h1, h2⟩, h3⟩, h4⟩ := h
  refine g' ?_
  clear g' G'
  refine ⟨?_, h2, h3, fun y hy e => ?_, fun y hy e => ?_⟩
  · split at h1
    · assumption
    · cases h1
  · have q := h4 y hy
    simp only [e] at q
    split at q <;> first | exact .inl (by assumption) | exact .inr (by assumption) | cases q
  · have q := h4 y hy
    rcases e with e | e <;> (simp only [e, Bool.or_eq_true, decide_eq_true_eq] at q; exact q)
end L2

namespace L2
open PySem PySem.Spec PyProof.Rows


section
variable {prog : Program} {w : World} {A : Around} {R : Result → Shared → Prop} {s : Shared} {elt t0 i0 t1 i1 : Expr} {ifs0 ifs1 : List Expr} {scope : Scope} {pos : Pos} {it acc : Value} {env : Env}
end

section
variable {X : Cx}
end
end L2

namespace L2
open PySem PySem.Spec PyProof.Rows

section
variable {κ : Type} [DecidableEq κ]
def valV (kvs : List (κ × V)) (k : κ) : Option V := (kvs.find? fun kv => decide (kv.1 = k)).map (·.2)
def putK (kvs : List (κ × V)) (k : κ) (v : V) : List (κ × V) :=
  if (kvs.any fun kv => decide (kv.1 = k)) = true then kvs.map (fun kv => if kv.1 = k then (kv.1, v) else kv) else kvs ++ [(k, v)]



theorem KV.length {kvs : List (κ × V)} {vs : List (κ × Value)} (r : KV kvs vs) : kvs.length = vs.length := Paired.length r
end




section
variable {P : Program} {w : World} {H : Hp} {h : Heap} {a : Addr}
end

def DGet (H : Hp) (a : Addr) (y : V) (r : Option V) : Prop :=
  (∃ kvs k, Rd H a (.dK kvs) ∧ y = kV k ∧ r = valV kvs k) ∨ ∃ kvs k b, Rd H a (.dT kvs) ∧ y = .ref b ∧ H b = some (.tup (k.map kV)) ∧ r = valV kvs k
def DPut (H : Hp) (a : Addr) (y v : V) (H' : Hp) : Prop :=
  (∃ kvs k, H a = some (.dK kvs) ∧ y = kV k ∧ kvs.length < sizeLine ∧ H' = upd H a (.dK (putK kvs k v))) ∨
  ∃ kvs k b, H a = some (.dT kvs) ∧ y = .ref b ∧ H b = some (.tup (k.map kV)) ∧ kvs.length < sizeLine ∧ H' = upd H a (.dT (putK kvs k v))
theorem DGet.k {H : Hp} {a : Addr} {kvs : List (Key × V)} {k : Key} (e : H a = some (.dK kvs)) : DGet H a (kV k) (valV kvs k) := .inl ⟨kvs, k, .inl e, rfl, rfl⟩
theorem DGet.t {H : Hp} {a b : Addr} {kvs : List (List Key × V)} {k : List Key} (e : H a = some (.dT kvs)) (eb : H b = some (.tup (k.map kV))) : DGet H a (.ref b) (valV kvs k) := .inr ⟨kvs, k, b, .inl e, rfl, eb, rfl⟩
theorem DPut.k {H : Hp} {a : Addr} {kvs : List (Key × V)} {k : Key} {v : V} (e : H a = some (.dK kvs)) (hl : kvs.length < sizeLine) : DPut H a (kV k) v (upd H a (.dK (putK kvs k v))) := .inl ⟨kvs, k, e, rfl, hl, rfl⟩
theorem DPut.t {H : Hp} {a b : Addr} {kvs : List (List Key × V)} {k : List Key} {v : V} (e : H a = some (.dT kvs)) (eb : H b = some (.tup (k.map kV))) (hl : kvs.length < sizeLine) :
    DPut H a (.ref b) v (upd H a (.dT (putK kvs k v))) := .inr ⟨kvs, k, b, e, rfl, eb, hl, rfl⟩


section
variable {X : Cx} {pins : List (Addr × Obj)} {σ : St} {H : Hp} {s : Shared} {a : Addr} {y v : V} {u r : Value} {o : Option V} {A : Around} {E : Value → Shared → Prop}


end

section
variable {X : Cx} {pins : List (Addr × Obj)} {σ : St} {H : Hp} {s : Shared} {a : Addr} {kvs : List (Key × V)} {k : Key} {u : Value} {A : Around} {E : Value → Shared → Prop}
end





section
variable {X : Cx} {o i e value : Expr} {pos pos' tpos : Pos} {td ty tv : TE}
end


section
variable {X : Cx} {pos : Pos}
end






section
variable {X : Cx} {pins : List (Addr × Obj)} {σ : St} {H : Hp} {s : Shared} {a : Addr} {y d : V} {u r : Value} {o : Option V} {A : Around} {E : Value → Shared → Prop}
end

section
variable {X : Cx} {o e f : Expr} {apos cpos : Pos} {td ty tx : TE}
end

section
variable {X : Cx} {pins : List (Addr × Obj)} {σ : St} {H : Hp} {s : Shared} {a : Addr} {kvs : List (Key × V)} {A : Around} {E : Value → Shared → Prop}
end


section
variable {X : Cx} {pins : List (Addr × Obj)} {σ : St} {H : Hp} {s : Shared} {a : Addr} {y : V} {u : Value} {A : Around} {E : Value → Shared → Prop}
end
end L2

namespace L2
open PySem PySem.Spec PyProof.Rows


section
variable {prog : Program} {w : World} {A : Around} {E : Value → Shared → Prop}


end

section
variable {X : Cx}
end
end L2

namespace L2
open PySem PySem.Spec PyProof.Rows


section
variable {X : Cx} {pins : List (Addr × Obj)} {σ : St} {H : Hp} {s : Shared} {h' : Heap}

end
section
variable {X : Cx}

theorem pi_one {tg : Expr} {pins : List (Addr × Obj)} {σ : St} {H : Hp} {s : Shared} {R : It → Hp → Prop} {J : It} {tn : Nat → Heap → Prop} {tk : Nat} (I : Inv X pins σ H s) (o : Obj)
    (T : Turn X.prog X.w X.K tg J [s.heap.objs.size] s.heap.objs.size tn) (st : tn 0 (s.heap.push o)) (q : R J H) : PIE X pins σ tg R (.ref s.heap.objs.size) { s with heap := s.heap.push o, toks := tk } := by
  refine ⟨s.heap.objs.size, [s.heap.objs.size], tn, J, H, rfl, I.kept fun b ob e => Heap.get?_push_of_some _ e, T, st, fun b hb => ?_, q⟩
  have e : b = s.heap.objs.size := by simpa using hb
  subst e
  exact I.fpOk (Nat.le_refl _) (I.hok.fresh (Nat.le_refl _))
end

section
variable {X : Cx} {tg : Expr}
end

section
variable {X : Cx} {tg : Expr}
end

def Its (x : Str) : It := ⟨fun i _ => i < x.cps.size, fun i H v H' => H' = H ∧ ∃ c, x.cps[i]? = some c ∧ v = .str ⟨#[c]⟩, fun i _ => x.cps.size ≤ i⟩
theorem turn_str {P : Program} {w : World} {K : PySem.W.Frag} {tg : Expr} (it : Addr) (x : Str) (t : Tok) (ty : String) (hty : ty = "str_ascii_iterator" ∨ ty = "str_iterator") :
    Turn P w K tg (Its x) [it] it (fun i h => h.IsStrIter it ty x t i) where
  mem := by simp
  obj := fun i h st b hb => by
    have e : b = it := by simpa using hb
    subst e
    refine bg fun G' g' => ?_
    obtain ⟨o, e, c, d⟩ := st
    refine g' ?_
    clear g' G'
    exact ⟨o, e, fun v z => by rw [d] at z; cases z⟩
  keep := fun i h h' st k => let ⟨o, ho, r⟩ := st; ⟨o, k it (by simp) o ho, r⟩
  item := by
    intro X hP hw hK hc i pins s σ H E I hf st hg
    subst hP hw hK
    refine bg fun G' g' => ?_
    obtain ⟨f0, f1, f2, f3, f4, f5⟩ := hf it (by simp)
    refine g' ?_
    clear g' G'
    have W : Walks X.prog X.w X.A it [it] [it] x.cps.size (SignAt x) (fun i h => h.IsStrIter it ty x t i) := by
      rcases hty with e | e
      · rw [e]; exact Walks.strAscii (I.ok.hd hc) it x t
      · rw [e]; exact Walks.strWide (I.ok.hd hc) it x t
    have hno : ["enumerate", "zip", "dict_itemiterator", "dict_reverseitemiterator", "odict_iterator", "itertools.zip_longest", "itertools.pairwise"].contains ty = false := by
      rcases hty with e | e
      · rw [e]; decide
      · rw [e]; decide
    refine W.item i s _ _ hg st fun v h' tk hv st' kk => ?_
    refine bg fun G' g' => ?_
    obtain ⟨c, u, hcx, rfl⟩ := hv
    refine g' ?_
    clear g' G'
    have I1 : Inv X pins σ H { s with heap := h', toks := tk } := I.turned (fun b o hb e => kk b o (by simpa using hb) e) f0 f1 f3 f4 f5
    refine bg fun G' g' => ?_
    obtain ⟨oi, e, cc, dd⟩ := id st'
    refine g' ?_
    clear g' G'
    exact ⟨_, rfl, go_of (s := { s with heap := h', toks := tk }) e cc dd hno ⟨.str ⟨#[c]⟩, H, I1, ⟨u, rfl⟩, ⟨rfl, c, hcx, rfl⟩, st', fun b hb => (hf b hb).1⟩⟩
  done := by
    intro X hP hw hK hc i pins s σ H E I hf st hg
    subst hP hw hK
    refine bg fun G' g' => ?_
    obtain ⟨f0, f1, f2, f3, f4, f5⟩ := hf it (by simp)
    refine g' ?_
    clear g' G'
    have hx : x.cps[i]? = none := Array.getElem?_eq_none hg
    rcases hty with e | e
    · rw [e] at st
      exact wpAny_pyNext_ascii_end (I.ok.hd hc) st hx fun h' eb => ⟨rfl, I.turned (t' := s.toks) (fun b o hb e => eb b o hb e) f0 f1 f3 f4 f5⟩
    · rw [e] at st
      exact wpAny_pyNext_wide_end (I.ok.hd hc) st hx fun h' eb => ⟨rfl, I.turned (t' := s.toks) (fun b o hb e => eb b o hb e) f0 f1 f3 f4 f5⟩
  self := fun A i s Q E st h => by
    rcases hty with e | e
    · rw [e] at st; exact wpAny_pyIter_striter_ascii st h
    · rw [e] at st; exact wpAny_pyIter_striter_wide st h
def iStr (te : TE) : TI := fun σ H R => te σ H fun v H1 => ∃ x, v = .str x ∧ R (Its x) H1
theorem pi_str {X : Cx} {tg e : Expr} {te : TE} (he : PE X e te) : PI X tg e (iStr te) := by
  intro pins s σ H R I h
  refine thn (he pins s σ H _ I h) fun v s1 ⟨y, H1, I1, r1, x, ex, q⟩ => ?_
  subst ex
  obtain ⟨t, rfl⟩ := r1
  cases ha : x.cps.all (· < 128)
  · exact wpAny_pyIter_wide ha (pi_one (tk := s1.toks) I1 _ (turn_str _ x t "str_iterator" (.inr rfl)) ⟨_, Heap.get?_push_size _ rfl, rfl, rfl⟩ q)
  · exact wpAny_pyIter_ascii ha (pi_one (tk := s1.toks) I1 _ (turn_str _ x t "str_ascii_iterator" (.inl rfl)) ⟨_, Heap.get?_push_size _ rfl, rfl, rfl⟩ q)

section
variable {prog : Program} {w : World} {A : Around} {E : Value → Shared → Prop} {s : Shared}
end

section
variable {X : Cx} {pins : List (Addr × Obj)} {σ : St} {H : Hp} {s : Shared} {d : Addr} {o : Obj}
end

section
variable {P : Program} {w : World} {K : PySem.W.Frag} {tg : Expr} {d : Addr} {o : Obj} {es : Array DictEntry} {ep : Nat}
end

section
variable {X : Cx} {tg e : Expr} {td : TE} {apos cpos : Pos}
end

end L2

section 
namespace Bits
open PySem PyProof.Rows








end Bits
end 

section 
namespace TL
open PySem PySem.Builtin PySem.Builtin.Str PySem.StrLaws

abbrev tl (x : Str) : List Nat := x.cps.toList
theorem len_tl (x : Str) : x.length = (tl x).length := by simp [tl, Str.length]
theorem tl_append (x y : Str) : tl (x ++ y) = tl x ++ tl y := by
  show (x ++ y).cps.toList = _
  rw [Str.cps_append, Array.toList_append]
theorem tl_ofString (s : String) : tl (Str.ofString s) = s.toList.map Char.toNat := PyProof.Rows.signs_ofString s





theorem tl_strSub (x : Str) (i j : Nat) : tl (strSub x i j) = ((tl x).drop i).take (j - i) := strSub_toList x i j






def numL (n : Nat) : List Nat := (Nat.toDigits 10 n).map Char.toNat
theorem tl_num (n : Nat) : tl (Str.ofString (toString ((n : Nat) : Int))) = numL n := PySem.W.KIN.signs_num n

end TL
end 

namespace L2
open PySem PySem.Spec PyProof.Rows

theorem notLong {n : Nat} (h : n ≤ 16777216) : Builtin.Str.tooLong n = false := by
  have e : (2 : Nat) ^ 24 = 16777216 := by decide
  unfold Builtin.Str.tooLong sizeLine
  exact decide_eq_false (by omega)



section
variable {X : Cx} {pins : List (Addr × Obj)} {σ : St} {H : Hp} {s : Shared} {Q : VK}
end

section
variable {X : Cx}







end

section
variable {X : Cx} {o e : Expr} {to te : TE}

end
end L2

namespace L2
open PySem PySem.Spec PyProof.Rows

section
variable {X : Cx}
end

theorem IsPart.raw {v : Value} {o : Option Int} (p : IsPart v o) : ∃ l : Option (Int × Tok), v = partValue l ∧ l.map (·.1) = o := by
  cases p with
  | none => exact ⟨none, rfl, rfl⟩
  | int i t => exact ⟨some (i, t), rfl, rfl⟩

def clipS (n d : Nat) : Option Int → Int
  | none => (d : Int)
  | some i => max 0 (min (if i < 0 then i + (n : Int) else i) (n : Int))
theorem clipS_eq (n d : Nat) (o : Option Int) : clipS n d o = ((HT.sIx n d o : Nat) : Int) := by
  cases o with
  | none => rfl
  | some v =>
    show max (0 : Int) (min (if v < 0 then v + (n : Int) else v) (n : Int)) = (((if v < 0 then (v + (n : Int)).toNat else min v.toNat n) : Nat) : Int)
    by_cases hv : v < 0
    · simp only [if_pos hv]
      omega
    · simp only [if_neg hv]
      omega
theorem sidx_clip (a b : Option Int) (n : Nat) : Builtin.Str.strSliceIndices a b 1 n = sliceRange (clipS n 0 a) (clipS n n b) 1 := by
  have h1 : ((1 : Int) > 0) = True := by simp
  cases a <;> cases b <;> first
    | rfl
    | (simp only [Builtin.Str.strSliceIndices, clipS, h1, if_true]; rfl)
    | simp [Builtin.Str.strSliceIndices, clipS]
theorem sidx (a b : Option Int) (n : Nat) : Builtin.Str.strSliceIndices a b 1 n = (List.range (HT.sIx n n b - HT.sIx n 0 a)).map (fun k => HT.sIx n 0 a + k) := by
  rw [sidx_clip, clipS_eq, clipS_eq]
  generalize HT.sIx n 0 a = p
  generalize HT.sIx n n b = q
  simp only [sliceRange, show ((1 : Int) > 0) = True from by simp, if_true]
  by_cases hlt : (p : Int) < q
  · have e3 : (((q : Int) - p + 1 - 1) / 1).toNat = q - p := by first | omega | (simp; done) | (simp; omega)
    simp only [hlt, if_true, e3]
    refine List.map_congr_left fun k _ => ?_
    (clear e3 hlt; omega)
  · have : q - p = 0 := by omega
    simp [hlt, this]

def cutS (z : Str) (lo hi : Option Int) : Str :=
  ⟨((z.cps.toList.drop (HT.sIx z.length 0 lo)).take (HT.sIx z.length z.length hi - HT.sIx z.length 0 lo)).toArray⟩
theorem sliceText_cut (z : Str) (lo hi : Option Int) : PySem.StrLaws.sliceText z lo hi = cutS z lo hi := by
  have h1 : HT.sIx z.length 0 lo ≤ z.length := HT.sIx_le _ _ (Nat.zero_le _) _
  have h2 : HT.sIx z.length z.length hi ≤ z.length := HT.sIx_le _ _ (Nat.le_refl _) _
  have hp : HT.sIx z.length 0 lo ≤ max (HT.sIx z.length 0 lo) (HT.sIx z.length z.length hi) := Nat.le_max_left _ _
  have hq : max (HT.sIx z.length 0 lo) (HT.sIx z.length z.length hi) ≤ z.length := Nat.max_le.mpr ⟨h1, h2⟩
  have hd : max (HT.sIx z.length 0 lo) (HT.sIx z.length z.length hi) - HT.sIx z.length 0 lo = HT.sIx z.length z.length hi - HT.sIx z.length 0 lo := by (clear hq h2 h1; omega)
  have e : Builtin.Str.strSliceIndices lo hi 1 z.length =
      Builtin.Str.strSliceIndices (some ((HT.sIx z.length 0 lo : Nat) : Int)) (some ((max (HT.sIx z.length 0 lo) (HT.sIx z.length z.length hi) : Nat) : Int)) 1 z.length := by
    rw [PySem.StrLaws.strSliceIndices_plain hp hq, hd, sidx]
  have e2 : PySem.StrLaws.sliceText z lo hi =
      PySem.StrLaws.sliceText z (some ((HT.sIx z.length 0 lo : Nat) : Int)) (some ((max (HT.sIx z.length 0 lo) (HT.sIx z.length z.length hi) : Nat) : Int)) := by
    unfold PySem.StrLaws.sliceText
    rw [e]
  rw [e2, PySem.StrLaws.sliceText_nat z hp hq, hd]
  rfl
theorem cutS_length (z : Str) (lo hi : Option Int) : (cutS z lo hi).length ≤ z.length := by
  show (((z.cps.toList.drop (HT.sIx z.length 0 lo)).take (HT.sIx z.length z.length hi - HT.sIx z.length 0 lo)).toArray).size ≤ z.cps.size
  rw [List.size_toArray, List.length_take, List.length_drop, Array.length_toList]
  omega
inductive rSlS (x : V) (lo : Option Int) (hi : Option Int) (H : Hp) (Q : VK) : Prop
  | mk (z : _) (c_1 : x = .str z) (c_2 : z.length ≤ sizeLine) (c_3 : Q (.str (cutS z lo hi)) H)
theorem sl_str {X : Cx} : SlR X rSlS := by
  intro pins s σ H x v vl vu lo hi sl Q I rx hs pl pu h
  refine bg fun G' g' => ?_
  obtain ⟨z, rfl, hz, q⟩ := h
  refine g' ?_
  clear g' G'
  obtain ⟨t, rfl⟩ := rx
  refine bg fun G' g' => ?_
  obtain ⟨os, hos, hcs, hds⟩ := hs
  refine g' ?_
  clear g' G'
  refine bg fun G' g' => ?_
  obtain ⟨l, rfl, rfl⟩ := IsPart.raw pl
  refine g' ?_
  clear g' G'
  refine bg fun G' g' => ?_
  obtain ⟨u, rfl, rfl⟩ := IsPart.raw pu
  refine g' ?_
  clear g' G'
  refine ⟨"str", _, F.slot_str_getitem.lookup, typeIs_str _ _ _, ?_⟩
  refine wpAny_getItem_str_slice (l := l) (u := u) (st := none) ⟨os, hos, hcs, hds⟩ rfl ?_
  have hl : (PySem.StrLaws.sliceText z (l.map (·.1)) (u.map (·.1))).length ≤ sizeLine := by
    rw [sliceText_cut]
    exact Nat.le_trans (cutS_length z _ _) hz
  rw [← sliceText_cut] at q
  unfold PySem.StrLaws.sliceText at q hl
  show Made.post (if ((1 : Int) == 1 && (Builtin.Str.strSliceIndices (l.map (·.1)) (u.map (·.1)) 1 z.length).length == z.length) = true then Made.val (.str z t)
    else Made.str ⟨((Builtin.Str.strSliceIndices (l.map (·.1)) (u.map (·.1)) 1 z.length).filterMap (z.cps[·]?)).toArray⟩) (EP X pins σ Q) s
  by_cases c : ((1 : Int) == 1 && (Builtin.Str.strSliceIndices (l.map (·.1)) (u.map (·.1)) 1 z.length).length == z.length) = true
  · rw [if_pos c] at q ⊢
    exact ⟨.str z, H, I, ⟨t, rfl⟩, q⟩
  · rw [if_neg c] at q hl ⊢
    exact ⟨hl, .str _, H, I.tok _, ⟨_, rfl⟩, q⟩
end L2

namespace Att
open PySem PySem.W PySem.Calls PyProof.Rows

theorem ints_of_wellAll {P : Params} {h : Heap} : ∀ (ns : List Int) (vs : List Value), WellAll P h vs (ns.map WData.int) → IntsAre vs ns := by
  intro ns
  induction ns with
  | nil =>
    intro vs w
    rw [List.map_nil] at w
    cases w
    exact .nil
  | cons n ns ih =>
    intro vs w
    rw [List.map_cons] at w
    cases w with
    | cons a b =>
      cases a
      exact .cons _ _ (ih _ b)






section
variable {prog : Program} {w : World} {A : Around} {E : Value → Shared → Prop} {s : Shared} {K : Frag}






end
end Att

namespace L2
open PySem PySem.Spec PyProof.Rows

theorem vals_ints : ∀ {vs : List Value} {ns : List Int}, IntsAre vs ns → Vals (ns.map V.int) vs
  | _, _, .nil => .nil
  | _, _, .cons n t h => .cons ⟨t, rfl⟩ (vals_ints h)


end L2

namespace L2
open PySem PySem.Spec PyProof.Rows

abbrev KOf {K : PySem.W.Frag} {h : Heap} (_ : K.In h) : PySem.W.Frag := K

end L2

/- THE LAST THEOREM (shape; LID, My.* are yours):
   My.Adr: a structure of the addresses that your layer names (classes, functions); My.Txt K t: a structure (Prop) of the equations over K;
   My.txt_mk : {K} {implicit addresses ..} (e1 : nsIn K mainGlobals "law" = some (some (.ref f))) (e2 : K.lookup f = some ⟨oc, od, .func (fnOf "law" "law" params body scope dV kV doc pm an cdv ct), sl⟩) (e3 : codeIn K cdv "law" = true) .. : ∃ t, My.Txt K t

set_option maxRecDepth 100000 in
set_option maxHeartbeats 0 in
theorem PySem.Challenge.cw_LID_holds : PySem.Challenge.rw_LID.Holds := by
  w_on; o_law; k_head; (case hw => w_witness2)
  k_fill
  refine L2.walk_of (l := PySem.Challenge.rw_LID) (n := 63) (k := 40) (x := "script") (CX := fun w => ..) (sp := fun _ => My.sp_law) rfl (by decide) rfl ⟨rfl, by decide, by decide⟩ (fun w h Y => PySem.W.kIn_of Y) ?F ?S ?C
  case F =>
    intro w mg fa h KX G hmg
    have T : ∃ t, My.Txt (L2.KOf KX) t := by
      dsimp only [L2.KOf]                          -- K must stand as «<heap const> w.params» for k_is
      refine' My.txt_mk ?e1 ?e2 ?e3 ..
      (case e1 => PySem.W.k_is)                    -- in the order: a name -> its address -> its object -> its parts
      (case e2 => PySem.W.k_is)
      ..
    obtain ⟨t, T⟩ := T
    have e0 := hmg.symm.trans (PySem.W.mg_of KX G T.law)
    cases e0                                       -- fa is the law's own address
    exact ⟨_, fun s u => .of_eq rfl, fun base kb nb => My.law_fn T kb nb⟩     -- if «.of_eq rfl» comes too early: refine' ⟨_, ?b, fun base kb nb => My.law_fn T kb nb⟩; exact fun s u => .of_eq rfl
  case S => exact fun w H a ns hl hO hS => ..
  case C => exact ..
(the tactic k_is has no namespace: write k_is) -/

namespace L2
open PySem PySem.Spec PyProof.Rows

def inClass (s : Stmt) (j : Nat) : Stmt := match s with
  | .ClassDef _ _ _ body _ _ _ _ _ _ _ => body.getD j (.Pass ⟨0, 0, 0, 0⟩)
  | _ => .Pass ⟨0, 0, 0, 0⟩
def defArgs (s : Stmt) : Arguments := match s with
  | .FunctionDef _ a _ _ _ _ _ _ _ _ => a
  | _ => { posonlyargs := [], args := [], vararg := none, kwonlyargs := [], kw_defaults := [], kwarg := none, defaults := [] }
def defBody (s : Stmt) : List Stmt := match s with
  | .FunctionDef _ _ b _ _ _ _ _ _ _ => b
  | _ => []
def defScope (s : Stmt) : Scope := match s with
  | .FunctionDef _ _ _ _ _ _ sc _ _ _ => sc
  | _ => { kind := .function, names := [], isGenerator := false, isCoroutine := false }

abbrev CX0 : CXT := fun _ _ _ _ _ _ => False
abbrev E0 : XK := fun _ _ _ => False
theorem pass0 {X : Cx} : Passes CX0 X E0 := fun _ _ _ _ _ _ _ h => h.elim

structure Fun (K : PySem.W.Frag) (x qual : Str) (st : Stmt) (f : Addr) (fd : FuncData) : Prop where
  ex : ∃ (oc : Value) (od : Option Addr) (kV doc pm : Value) (an : Option Addr) (cdv ct : Value) (osl : Array (Option Value)),
    fd = PySem.W.fnOf x qual (defArgs st) (defBody st) (defScope st) .none kV doc pm an cdv ct ∧ K.lookup f = some ⟨oc, od, .func fd, osl⟩ ∧ PySem.W.codeIn K cdv qual = true
  kp : PySem.W.keepIn K (.ref f) = true
section
variable {P : Program} {w : World} {K : PySem.W.Frag} {mg : Str → Option Value} {base : Heap}
theorem Fun.ok {x qual : Str} {st : Stmt} {f : Addr} {fd : FuncData} {N ps : List Str} {k : Nat} {sp : Sp} (F : Fun K x qual st f fd) (S : FnScope N ps (defScope st)) (len : ∀ vs H Q E, sp vs H Q E → vs.length = ps.length)
    (hbody : ∀ (cdv : Value) (A : Around) (outer : List Env) (s : Shared) (H : Hp) (vs : List V) (Q : VK) (E : XK), Room k (A.deeper (envOfC qual (defScope st) s.heap.objs.size f cdv)) → sp vs H Q E →
      ∃ t, PSs (cxOf CX0 P w K mg base N qual (defScope st) f cdv A outer s H E).nox (defBody st) t ∧ t { nx := fun _ H' => Q .non H', rt := Q } (start N vs) H) : FnOk P w K mg base CX0 (k + 1) f fd ps sp := by
  refine bg fun G' g' => ?_
  obtain ⟨oc, od, kV, doc, pm, an, cdv, ct, osl, rfl, lk, hcd⟩ := F.ex
  refine g' ?_
  clear g' G'
  refine fn_of lk hcd S len fun A outer s H vs Q E hr hsp => ?_
  refine bg fun G' g' => ?_
  obtain ⟨t, h, q⟩ := hbody cdv A outer s H vs Q E hr hsp
  refine g' ?_
  clear g' G'
  exact ⟨t, h.nox, q⟩
theorem Fun.binds {x qual : Str} {st : Stmt} {f : Addr} {fd : FuncData} {ps : List Str} (F : Fun K x qual st f fd)
    (h : ∀ (kV doc pm : Value) (an : Option Addr) (cdv ct : Value) (us : List Value), us.length = ps.length → bindArgs (PySem.W.fnOf x qual (defArgs st) (defBody st) (defScope st) .none kV doc pm an cdv ct) ⟨us, []⟩ = pure (ps.zip us)) : Binds K fd ps [] := by
  refine bg fun G' g' => ?_
  obtain ⟨oc, od, kV, doc, pm, an, cdv, ct, osl, rfl, lk, hcd⟩ := F.ex
  refine g' ?_
  clear g' G'
  exact .all (h kV doc pm an cdv ct)
theorem fun_mk {x qual : Str} {st : Stmt} {f : Addr} {oc : Value} {od an : Option Addr} {osl : Array (Option Value)} {kV doc pm cdv ct : Value} (l : K.lookup f = some ⟨oc, od, .func (PySem.W.fnOf x qual (defArgs st) (defBody st) (defScope st) .none kV doc pm an cdv ct), osl⟩)
    (c : PySem.W.codeIn K cdv qual = true) (k : PySem.W.keepIn K (.ref f) = true) : Fun K x qual st f (PySem.W.fnOf x qual (defArgs st) (defBody st) (defScope st) .none kV doc pm an cdv ct) := ⟨⟨oc, od, kV, doc, pm, an, cdv, ct, osl, rfl, l, c⟩, k⟩
end

section
variable {X : Cx}
theorem pv (i : Nat) {x : Str} {pos : Pos} (hN : X.N[i]? = some x := by rfl) (hv : Vis X.env.scope x := by first | exact Or.inl rfl | exact Or.inr (Or.inl rfl) | exact Or.inr (Or.inr rfl)) (hd : (x == ("__debug__" : Str)) = false := by decide)
    (hcd : (x == ("__classdict__" : Str)) = false := by decide) : PE X (.Name x pos) (tVar i) := pe_var hN hv hd hcd
end

theorem iteT {A B : Prop} (h : A) : if true = true then A else B := by
  rw [if_pos rfl]
  exact h
theorem ite2 {c A B : Prop} [Decidable c] (h1 : c → A) (h2 : ¬ c → B) : if c then A else B := by
  by_cases h : c
  · rw [if_pos h]
    exact h1 h
  · rw [if_neg h]
    exact h2 h

def Same (H H' : Hp) : Prop := ∀ b o, H b = some o → H' b = some o
theorem Same.trans {H H1 H2 : Hp} (a : Same H H1) (b : Same H1 H2) : Same H H2 := fun c o h => b c o (a c o h)
theorem Same.free {H H' : Hp} (e : Same H H') {l : Addr} (h : H' l = Option.none) : H l = Option.none := by
  cases q : H l with
  | none => rfl
  | some o =>
    rw [e l o q] at h
    cases h
theorem Same.seq {K : PySem.W.Frag} {H H' : Hp} {a : Addr} {xs : List V} (e : Same H H') (h : SqL K H a xs) : SqL K H' a xs := by
  rcases h with (h | ⟨o, h⟩) | h
  · exact .inl (.inl (e _ _ h))
  · exact .inl (.inr ⟨o, e _ _ h⟩)
  · exact .inr h

section
variable {κ : Type} [DecidableEq κ]
end
end L2

set_option Elab.async false
namespace L2
open PySem PySem.Spec PyProof.Rows

theorem spec_call {P : Program} {w : World} {K : PySem.W.Frag} {mg mb : Str → Option Value} {CX : CXT} {k : Nat} {fa : Addr} {fd : FuncData} {ps : List Str} {sp : Sp} {s₁ : Shared} {us : List Value} {vs : List V} {S : List Addr} {f : Addr → List V} {out : List Int}
    (KX : K.In s₁.heap) (hns : s₁.heap.Ns mainGlobals mg) (hb : s₁.heap.Ns builtinsNs mb) (hbb : ∀ x : Str, x ≠ "__name__" → mb x = bootBuiltins x) (hlim : s₁.heap.NoLimit) (hg : s₁.gens = #[])
    (hS : ∀ a ∈ S, ∃ its : List Value, s₁.heap.get? a = some { cls := .type "list", data := .seq its.toArray } ∧ Vals (f a) its ∧ (f a).length ≤ sizeLine)
    (hv : Vals vs us) (hr : Room k callerA)
    (F : ∀ base : Heap, K.In base → base.Ns mainGlobals mg → FnOk P w K mg base CX k fa fd ps sp) (hbind : BindsTo s₁ fd ⟨us, []⟩ (ps.zip us))
    (hsp : ∀ H : Hp, (∀ a ∈ S, SqL K H a (f a)) → sp vs H (fun v H' => ∃ l, v = .ref l ∧ H' l = some (.lst (out.map V.int))) fun _ _ _ => False)
    (hCX : ∀ H e s', CX [] H s₁ (fun _ _ _ => False) e s' → False) :
    codeAny (model P w) callerA (.call (.ref fa) ⟨us, []⟩) (fun r s' => (∃ (l : Addr) (its : List Value) (n : Nat), r = .ok (.ret (.ref l)) ∧ s'.heap.get? l = some { cls := .type "list", data := .seq its.toArray n } ∧ IntsAre its out) ∧ OldK s₁.heap s'.heap ∧ s'.os = s₁.os ∧ AllBare s'.gens) s₁ := by
  -- the abstract heap: the given lists that are none of the module's objects, frozen
  obtain ⟨H, hH⟩ : ∃ H : Hp, ∀ b, H b = if b ∈ S ∧ K.lookup b = none then (s₁.heap.get? b).map (fun o => HO.frz o (.lst (f b))) else none := ⟨_, fun _ => rfl⟩
  have hin : ∀ b o, H b = some o → b ∈ S ∧ K.lookup b = none := fun b o e => by
    rw [hH] at e
    split at e
    · rename_i h; exact h
    · cases e
  have hfr : ∀ b o, H b = some o → ∃ ob, s₁.heap.get? b = some ob ∧ o = .frz ob (.lst (f b)) := fun b o e => by
    have z := hin b o e
    rw [hH, if_pos z] at e
    refine bg fun G' g' => ?_
    obtain ⟨its, hi, _⟩ := hS b z.1
    refine g' ?_
    clear g' G'
    rw [hi] at e
    exact ⟨_, hi, (Option.some.inj e).symm⟩
  have hSq : ∀ a ∈ S, SqL K H a (f a) := fun a ha => by
    refine bg fun G' g' => ?_
    obtain ⟨its, hi, hvs, hl⟩ := hS a ha
    refine g' ?_
    clear g' G'
    cases hk : K.lookup a with
    | none => exact .inl (.inr ⟨_, by rw [hH, if_pos ⟨ha, hk⟩, hi]; rfl⟩)
    | some o =>
      have e := KX a o hk
      rw [hi] at e
      cases e
      exact .inr ⟨_, its.toArray, _, hk, rfl, rfl, rfl, by rw [List.size_toArray, ← hvs.length]; exact hl, by simpa using hvs⟩
  have hok : HOk P w H s₁.heap := fun b u e => by
    refine bg fun G' g' => ?_
    obtain ⟨ob, ho, rfl⟩ := hfr b u e
    refine g' ?_
    clear g' G'
    refine bg fun G' g' => ?_
    obtain ⟨its, hi, hvs, hl⟩ := hS b (hin b _ e).1
    refine g' ?_
    clear g' G'
    rw [hi] at ho
    cases ho
    exact ⟨hi, hl, its, _, hvs, hi⟩
  have base_of : ∀ {b : Addr} {o : Obj}, s₁.heap.get? b = some o → H b = none → (hidT s₁.heap H).get? b = some o := fun e n => hidT_get e n
  have noA : ∀ {b : Addr} {o : Obj} {es : Array DictEntry} {ep : Nat}, s₁.heap.get? b = some o → o.data = .dict es ep → H b = none := fun {b o es ep} e d => by
    cases q : H b with
    | none => rfl
    | some u =>
      refine bg fun G' g' => ?_
      obtain ⟨its, hi, _⟩ := hS b (hin b _ q).1
      refine g' ?_
      clear g' G'
      rw [hi] at e; cases e
      have d' : Data.seq its.toArray _ = Data.dict es ep := d
      cases d'
  have nsK : ∀ {b : Addr} {m : Str → Option Value}, s₁.heap.Ns b m → (hidT s₁.heap H).Ns b m := fun {b m} ⟨o, es, ep, e, d, r⟩ => ⟨o, es, ep, base_of e (noA e d), d, r⟩
  have hKb : K.In (hidT s₁.heap H) := fun b o e => base_of (KX b o e) (by
    cases q : H b with
    | none => rfl
    | some u => rw [(hin b _ q).2] at e; cases e)
  have hM : Mod K mg (hidT s₁.heap H) := ⟨hKb, nsK hns, ⟨mb, nsK hb, hbb⟩, let ⟨mc, h1, h2⟩ := hlim; ⟨mc, nsK h1, h2⟩⟩
  have e0 : Env0 P w K mg (hidT s₁.heap H) callerA [] s₁ H := ⟨rfl, hM, fun b o e => of_hidT e, Nat.le_of_eq (hidT_size _ _), trivial, fun b hb => absurd (show b ∈ ([] : List Addr) from hb) (by simp), hok, .of_eq hg⟩
  refine codeAny_mono ((F _ hKb (nsK hns)).run callerA [] s₁ H ⟨us, []⟩ us vs _ _ hr e0 hbind hv (hsp H hSq)) fun r s' h => ?_
  cases r with
  | error e => exact (hCX H e s' h).elim
  | ok fl =>
    cases fl with
    | next => exact False.elim h
    | brk => exact False.elim h
    | cont => exact False.elim h
    | ret u =>
      refine bg fun G' g' => ?_
      obtain ⟨v, H', os, bare, un, hok', r', l, rfl, hl⟩ := h
      refine g' ?_
      clear g' G'
      obtain rfl : u = Value.ref l := r'
      refine bg fun G' g' => ?_
      obtain ⟨_, its, n, hits, hget⟩ := hok' l _ hl
      refine g' ?_
      clear g' G'
      refine ⟨⟨l, its, n, rfl, hget, hits.ints⟩, OldK.of_keep fun b o e => ?_, os, bare⟩
      cases q : H b with
      | none => exact un.keep b o e q (by intro z; exact absurd (show b ∈ ([] : List Addr) from z) (by simp)) (by simp)
      | some u =>
        refine bg fun G' g' => ?_
        obtain ⟨ob, ho, rfl⟩ := hfr b u q
        refine g' ?_
        clear g' G'
        have z2 := un.frzs b ob _ q
        obtain ⟨e1, _⟩ := hok b _ q
        obtain ⟨e2, _⟩ := hok' b _ z2
        rw [e] at e1; cases e1
        exact e2

theorem readsAll_ints {R : PySem.W.WRecords} {cl : Str → Option Addr} {h : Heap} : ∀ {its : List Value} {ns : List Int}, IntsAre its ns → PySem.W.ReadsAllW R cl h its (ns.map PySem.W.WData.int) []
  | _, _, .nil => .nil
  | _, _, .cons n t r => .cons (as := []) (bs := []) (.int n t) (readsAll_ints r)
end L2
namespace L2
open PySem PySem.Spec PyProof.Rows
theorem spec_walk {r : PySem.W.OpenSpec} {k : Nat} {q : Program} {loose : List Str} {XP : (Str → Option Value) → Heap → Prop} {YP : World → Heap → Prop} {d : DefRec} {K : Params → PySem.W.Frag} {CX : CXT} {sp : PySem.W.Frag → Sp} {ps : List Str}
    (hr : Room k callerA)
    (hY : ∀ (w : World) (h : Heap), YP w h → (K w.params).In h)
    (F : ∀ (w : World) (mg : Str → Option Value) (fa : Addr) (h : Heap), (K w.params).In h → h.Ns mainGlobals mg → mg d.name = some (.ref fa) →
      ∃ fd : FuncData, (∀ (s : Shared) (us : List Value), us.length = ps.length → BindsTo s fd ⟨us, []⟩ (ps.zip us)) ∧
        ∀ base : Heap, (K w.params).In base → base.Ns mainGlobals mg → FnOk r.prog w (K w.params) mg base CX k fa fd ps (sp (K w.params)))
    (hreq : ∀ (w : World) (h : Heap) (args : List PySem.W.WData) (vals : List Value), r.pre args = true → PySem.W.WellAll w.params h vals args →
      ∃ (vs : List V) (S : List Addr) (f : Addr → List V) (out : List Int), Vals vs vals ∧ vals.length = ps.length ∧
        (∀ a ∈ S, ∃ its : List Value, h.get? a = some { cls := .type "list", data := .seq its.toArray } ∧ Vals (f a) its ∧ (f a).length ≤ sizeLine) ∧
        (∀ (K : PySem.W.Frag) (H : Hp), (∀ a ∈ S, SqL K H a (f a)) → sp K vs H (fun v H' => ∃ l, v = .ref l ∧ H' l = some (.lst (out.map V.int))) fun _ _ _ => False) ∧
        r.post args (.list (out.map .int)) = true)
    (hCX : ∀ (H : Hp) (s : Shared) (e : Value) (s' : Shared), CX [] H s (fun _ _ _ => False) e s' → False) :
    PySem.W.WalkOS q loose XP YP r d [] (fun f vs => PySem.call f vs) := by
  intro w s₀ s₁ mg mb G Y fa o pm cd doc dV kV ho hd hcd hD hmg hg args vals as hpre hlay hrd hwl hlo
  have KX := hY w _ Y
  refine bg fun G' g' => ?_
  obtain ⟨fd, hb, hF⟩ := F w mg fa _ KX G.T.g hmg
  refine g' ?_
  clear g' G'
  refine bg fun G' g' => ?_
  obtain ⟨vs, S, f, out, hv, hlen, hS, hsp', hpost⟩ := hreq w s₁.heap args vals hpre hwl
  refine g' ?_
  clear g' G'
  refine PySem.W.enter_call (codeAny_mono (spec_call KX G.T.g G.T.b G.T.builtins G.T.nolimit hg hS hv hr hF (hb s₁ vals hlen) (fun H h => hsp' _ H h) (fun H e s' => hCX H s₁ e s')) fun r s' hq => ?_)
  refine bg fun G' g' => ?_
  obtain ⟨⟨l, its, n, rfl, hget, hints⟩, h2, h3, h4⟩ := hq
  refine g' ?_
  clear g' G'
  exact ⟨.inl ⟨.ref l, .list (out.map .int), [l], rfl, fun _ => rfl, .list hget rfl rfl (by simpa using readsAll_ints hints), hpost, fun h => absurd h Bool.false_ne_true⟩, h2, h3, h4⟩
end L2

set_option Elab.async false
set_option maxRecDepth 100000
namespace L2
open PySem PySem.Spec PyProof.Rows
structure UnB (fs : List Addr) (H H' : Hp) (h B : Heap) : Prop where
  keep : ∀ b o, h.get? b = some o → H b = none → b ∉ fs → B.get? b = some o
  free : ∀ b o, h.get? b = some o → H b = none → H' b = none
  there : ∀ b o, h.get? b = some o → b ∉ fs → ∃ o', B.get? b = some o'
  tups : ∀ b xs, H b = some (.tup xs) → H' b = some (.tup xs)
  frzs : ∀ b o u, H b = some (.frz o u) → H' b = some (.frz o u)
  tbls : ∀ b ps, H b = some (.tbl ps) → ∃ more, H' b = some (.tbl (ps ++ more))
def CXN (P : Program) (w : World) (C : Addr) : CXT := fun outer H s E ev s' => ∃ (e : Addr) (a0 : Value) (B : Heap) (H' : Hp), ev = .ref e ∧ s'.os = s.os ∧ AllBare s'.gens ∧ Heap.FlyingW B outer e (.ref C) a0 s'.heap ∧
  UnB (frs outer) H H' s.heap B ∧ (∀ b o, s.heap.get? b = some o → b ∈ frs outer → ∃ sl, s'.heap.get? b = some { o with slots := sl }) ∧ HOk P w H' B ∧ E (.ref C) none H'
structure XCls (K : PySem.W.Frag) (C : Addr) : Prop where
  ex : ∃ (nm q : Str) (N : Addr) (bs : List Value) (hdct : Bool) (sn : List Str) (sub : List Value) (ab : Bool) (col : Option Bool) (dd : Option Addr) (k0 k1 k2 k3 k5 : Option Value),
    K.lookup C = some (excClassObj nm q C N bs [.type "Exception", .type "BaseException", .type "object"] hdct sn sub ab col dd k0 k1 k2 k3 k5 "Exception.__new__") ∧
    ∃ (oN : Obj) (es : Array DictEntry) (ep : Nat), K.lookup N = some oN ∧ oN.data = .dict es ep ∧ StrKeys es ∧ nsFind es "__init__" = none
theorem hok_hide {P : Program} {w : World} {H : Hp} {h : Heap} {fs : List Addr} (ok : HOk P w H h) (fr : ∀ b ∈ fs, H b = none) : HOk P w H (PySem.W.hideAll h fs) := fun a o e =>
  (ok a o e).stay (fun b u hb q => PySem.W.hideAll_get _ q fun hm => by
    have := fr b hm
    rcases hb with rfl | hb
    · rw [e] at this; cases this
    · rw [hb] at this; cases this) (fun _ q => q) fun _ _ q => q
section
variable {P : Program} {w : World} {K : PySem.W.Frag} {mg : Str → Option Value} {base : Heap} {N : List Str} {qual : Str} {scope : Scope} {f : Addr} {cd : Value} {A : Around} {outer : List Env} {s : Shared} {H : Hp} {E : XK} {C : Addr}
theorem mem_stack {X : Cx} (hst : X.stack = X.env :: X.outer) (hfr : X.env.frame = some X.env.locals) {b : Addr} : b ∈ frs X.stack ↔ b = X.env.locals ∨ b ∈ X.fs := by
  rw [hst]
  show b ∈ (X.env :: X.outer).filterMap (·.frame) ↔ _
  rw [List.filterMap_cons, hfr]
  exact List.mem_cons
theorem old_ne {X : Cx} {pins : List (Addr × Obj)} {σ : St} {H : Hp} {s : Shared} (I : Inv X pins σ H s) {b : Addr} {o : Obj} (e : X.s₀.heap.get? b = some o) : b ≠ X.env.locals := Nat.ne_of_lt (Nat.lt_of_lt_of_le (Heap.lt_size e) I.ok.above)
theorem ps_raise {x : Str} {np cpos pos : Pos} (XC : XCls K C) (hg : Gl (cxOf (CXN P w C) P w K mg base N qual scope f cd A outer s H E) x) (hm : mg x = some (.ref C)) (hdb : (x == ("__debug__" : Str)) = false := by decide) :
    PS (cxOf (CXN P w C) P w K mg base N qual scope f cd A outer s H E) (.Raise (some (.Call (.Name x np) [] [] cpos)) none pos) (fun _ _ H' => E (.ref C) none H') := by
  intro pins s1 σ H1 D I h
  refine bg fun G' g' => ?_
  obtain ⟨nm, q, Nn, bs, hdct, sn, sub, ab, col, dd, k0, k1, k2, k3, k5, lC, oN, es, ep, lN, dN, sk, ni⟩ := XC.ex
  refine g' ?_
  clear g' G'
  have hC := I.kIn C _ lC
  have hN : s1.heap.Ns Nn (fun name => nsFind es name) := ⟨oN, es, ep, I.kIn Nn _ lN, dN, sk, fun _ => rfl⟩
  have h' : E (.ref C) none H1 := h
  refine wpAny_Raise_call_sub (nm := nm) (q := q) (C := C) (N := Nn) (bs := bs) (hdct := hdct) (sn := sn) (sub := sub) (ab := ab) (col := col) (dd := dd) (k0 := k0) (k1 := k1) (k2 := k2) (k3 := k3) (k5 := k5) PySem.F.excBase_Exception (I.ok.hd rfl) rfl ni (ld_glob I hg hm ⟨rfl, ?_⟩ hdb)
  refine PyProof.Rows.evalArgs_nil3 ⟨rfl, Nat.zero_le _, hC, hN, fun h2 e hx => ?_⟩
  have hst : (cxOf (CXN P w C) P w K mg base N qual scope f cd A outer s H E).stack = (cxOf (CXN P w C) P w K mg base N qual scope f cd A outer s H E).env :: (cxOf (CXN P w C) P w K mg base N qual scope f cd A outer s H E).outer := rfl
  have hfr : (cxOf (CXN P w C) P w K mg base N qual scope f cd A outer s H E).env.frame = some (cxOf (CXN P w C) P w K mg base N qual scope f cd A outer s H E).env.locals := rfl
  have hF := I.stack
  have hin : ∀ env ∈ (cxOf (CXN P w C) P w K mg base N qual scope f cd A outer s H E).stack, ∀ b, env.frame = some b → b ∈ frs (cxOf (CXN P w C) P w K mg base N qual scope f cd A outer s H E).stack := fun env he b hb => List.mem_filterMap.mpr ⟨env, he, hb⟩
  refine wpAny_leaves_madeW (base := PySem.W.hideAll s1.heap (frs (cxOf (CXN P w C) P w K mg base N qual scope f cd A outer s H E).stack)) (h := s1.heap) I.ok.frames hfr (fun b o q => PySem.W.of_hideAll _ q) (PySem.W.funFrames_hide hF hin) hx fun h3 t x1 x2 x3 x4 => ?_
  refine ⟨e, _, _, H1, rfl, I.os, I.bare, x1, ⟨fun b o eb n hb => ?_, fun b o eb n => I.base.free b o eb n (by simp [cxOf]), fun b o eb hb => ?_, I.base.tups, I.base.frzs, I.base.tbls⟩, fun b o eb hb => ?_, hok_hide I.hok I.stkFree, h'⟩
  · exact PySem.W.hideAll_get _ (I.base.keep b o eb n hb (by simp [cxOf])) fun hm' => by
      rcases (mem_stack hst hfr).mp hm' with z | z
      · exact old_ne I eb z
      · exact hb z
  · obtain ⟨o', e'⟩ := I.base.there b o eb (by simp [cxOf])
    exact ⟨o', PySem.W.hideAll_get _ e' fun hm' => by
      rcases (mem_stack hst hfr).mp hm' with z | z
      · exact old_ne I eb z
      · exact hb z⟩
  · have hnone : H b = none := I.ok.frf b hb
    obtain ⟨sl, e1⟩ := I.base.slot b o eb hnone hb (by simp [cxOf])
    refine bg fun G' g' => ?_
    obtain ⟨_, o2, ho2, hd2⟩ := hF.mem ((mem_stack hst hfr).mpr (.inr hb))
    refine g' ?_
    clear g' G'
    rw [e1] at ho2
    cases ho2
    obtain ⟨sl', e3⟩ := x4 b _ (hx.keeps b _ e1) hd2
    exact ⟨sl', e3⟩
theorem pass_on : Passes (CXN P w C) (cxOf (CXN P w C) P w K mg base N qual scope f cd A outer s H E) E := by
  intro pins σ H1 s1 ev s' I cx
  refine bg fun G' g' => ?_
  obtain ⟨e, a0, B, H', rfl, os, bare, fl, un, slots, hok, hE⟩ := cx
  refine g' ?_
  clear g' G'
  have hst : (cxOf (CXN P w C) P w K mg base N qual scope f cd A outer s H E).stack = (cxOf (CXN P w C) P w K mg base N qual scope f cd A outer s H E).env :: (cxOf (CXN P w C) P w K mg base N qual scope f cd A outer s H E).outer := rfl
  have hfr : (cxOf (CXN P w C) P w K mg base N qual scope f cd A outer s H E).env.frame = some (cxOf (CXN P w C) P w K mg base N qual scope f cd A outer s H E).env.locals := rfl
  refine wpAny_leaves_onW I.ok.frames hfr fl fun h2 x1 x2 => ?_
  refine ⟨e, a0, B, H', rfl, os.trans I.os, bare, x1, ⟨fun b o eb n hb => ?_, fun b o eb n => ?_, fun b o eb hb => ?_, fun b xs q => un.tups b xs (I.base.tups b xs q), fun b o u q => un.frzs b o u (I.base.frzs b o u q), fun b ps q => ?_⟩, fun b o eb hb => ?_, hok, hE⟩
  · exact un.keep b o (I.base.keep b o eb n hb (by simp [cxOf])) (I.base.free b o eb n (by simp [cxOf])) fun hm' => by
      rcases (mem_stack hst hfr).mp hm' with z | z
      · exact old_ne I eb z
      · exact hb z
  · obtain ⟨o', e'⟩ := I.base.there b o eb (by simp [cxOf])
    exact un.free b o' e' (I.base.free b o eb n (by simp [cxOf]))
  · obtain ⟨o', e'⟩ := I.base.there b o eb (by simp [cxOf])
    exact un.there b o' e' fun hm' => by
      rcases (mem_stack hst hfr).mp hm' with z | z
      · exact old_ne I eb z
      · exact hb z
  · obtain ⟨m1, e1⟩ := I.base.tbls b ps q
    obtain ⟨m2, e2⟩ := un.tbls b _ e1
    exact ⟨m1 ++ m2, by rw [e2, Array.append_assoc]⟩
  · have hnone : H b = none := I.ok.frf b hb
    obtain ⟨sl, e1⟩ := I.base.slot b o eb hnone hb (by simp [cxOf])
    obtain ⟨sl1, e2⟩ := slots b _ e1 ((mem_stack hst hfr).mpr (.inr hb))
    refine bg fun G' g' => ?_
    obtain ⟨_, o2, ho2, hd2⟩ := fl.2.2.1.mem ((mem_stack hst hfr).mpr (.inr hb))
    refine g' ?_
    clear g' G'
    rw [e2] at ho2
    cases ho2
    obtain ⟨sl', e3⟩ := x2 b _ e2 hd2
    exact ⟨sl', e3⟩
end
theorem Fun.okX {P : Program} {w : World} {K : PySem.W.Frag} {mg : Str → Option Value} {base : Heap} {CX : CXT} {x qual : Str} {st : Stmt} {f : Addr} {fd : FuncData} {N ps : List Str} {k : Nat} {sp : Sp} (F : Fun K x qual st f fd) (S : FnScope N ps (defScope st)) (len : ∀ vs H Q E, sp vs H Q E → vs.length = ps.length)
    (hbody : ∀ (cdv : Value) (A : Around) (outer : List Env) (s : Shared) (H : Hp) (vs : List V) (Q : VK) (E : XK), Room k (A.deeper (envOfC qual (defScope st) s.heap.objs.size f cdv)) → sp vs H Q E →
      ∃ t, PSs (cxOf CX P w K mg base N qual (defScope st) f cdv A outer s H E) (defBody st) t ∧ t { nx := fun _ H' => Q .non H', rt := Q } (start N vs) H) : FnOk P w K mg base CX (k + 1) f fd ps sp := by
  refine bg fun G' g' => ?_
  obtain ⟨oc, od, kV, doc, pm, an, cdv, ct, osl, rfl, lk, hcd⟩ := F.ex
  refine g' ?_
  clear g' G'
  exact fn_of lk hcd S len fun A outer s H vs Q E hr hsp => hbody cdv A outer s H vs Q E hr hsp
end L2

set_option Elab.async false
set_option maxRecDepth 100000
namespace L2
open PySem PySem.Spec PyProof.Rows
abbrev Cx.caught (X : Cx) (e : Addr) : Cx := { X with A := X.A.mark (some (.ref e)), calm := false, xe := fun _ _ => False }
abbrev Cx.tryc (X : Cx) (pn : List (Addr × Obj)) (E : Value → Shared → Prop) : Cx := { X with xe := E, pn := pn }
section
variable {X : Cx} {pins : List (Addr × Obj)} {σ : St} {H : Hp} {s : Shared} {e : Addr}
theorem Cx.Ok.caught (ok : X.Ok) (e : Addr) : (X.caught e).Ok :=
  ⟨ok.mod, ok.kind, ok.glob, ok.blt, ok.above, ok.inj, ok.has, ok.cab, fun h => absurd h (by simp), ok.frames, ok.stk, ok.exf, ok.bs, ok.bsz, ok.noex, ok.exfs, ok.funs, ok.frf⟩
theorem Cx.Ok.uncaught (ok : (X.caught e).Ok) (hd : X.calm = true → X.A.handled = none) : X.Ok :=
  ⟨ok.mod, ok.kind, ok.glob, ok.blt, ok.above, ok.inj, ok.has, ok.cab, hd, ok.frames, ok.stk, ok.exf, ok.bs, ok.bsz, ok.noex, ok.exfs, ok.funs, ok.frf⟩
theorem Inv.caught (I : Inv X pins σ H s) (e : Addr) : Inv (X.caught e) pins σ H s := ⟨I.ok.caught e, I.os, I.bare, I.base, I.loc, I.cell, I.free, I.freeC, I.pin, I.hok, I.len⟩
theorem Inv.uncaught (I : Inv (X.caught e) pins σ H s) (hd : X.calm = true → X.A.handled = none) : Inv X pins σ H s := ⟨I.ok.uncaught hd, I.os, I.bare, I.base, I.loc, I.cell, I.free, I.freeC, I.pin, I.hok, I.len⟩
theorem Cx.Ok.tryc (ok : X.Ok) (pn : List (Addr × Obj)) (E : Value → Shared → Prop) : (X.tryc pn E).Ok :=
  ⟨ok.mod, ok.kind, ok.glob, ok.blt, ok.above, ok.inj, ok.has, ok.cab, ok.hd, ok.frames, ok.stk, ok.exf, ok.bs, ok.bsz, ok.noex, ok.exfs, ok.funs, ok.frf⟩
theorem Cx.Ok.untryc {pn : List (Addr × Obj)} {E : Value → Shared → Prop} (ok : (X.tryc pn E).Ok) : X.Ok :=
  ⟨ok.mod, ok.kind, ok.glob, ok.blt, ok.above, ok.inj, ok.has, ok.cab, ok.hd, ok.frames, ok.stk, ok.exf, ok.bs, ok.bsz, ok.noex, ok.exfs, ok.funs, ok.frf⟩
theorem Inv.tryc (I : Inv X pins σ H s) (E : Value → Shared → Prop) : Inv (X.tryc (X.pn ++ pins) E) [] σ H s := ⟨I.ok.tryc _ E, I.os, I.bare, I.base, I.loc, I.cell, I.free, I.freeC, fun p hp => I.pin p (by simpa using hp), I.hok, I.len⟩
theorem Inv.untryc {E : Value → Shared → Prop} {pins' : List (Addr × Obj)} (I : Inv (X.tryc (X.pn ++ pins) E) pins' σ H s) : Inv X pins σ H s := ⟨I.ok.untryc, I.os, I.bare, I.base, I.loc, I.cell, I.free, I.freeC, fun p hp => I.pin p (List.mem_append_left _ hp), I.hok, I.len⟩
def tTry (tb : XK → TS) (ts : TS) : TS := fun D σ H => tb (fun _ _ H' => ∀ σ', ts D σ' H') D σ H
theorem un_of_B {fs : List Addr} {H H' : Hp} {h B h1 h2 : Heap} (un : UnB fs H H' h B) (st : B.StaysIn h2) (slots : ∀ b o, h.get? b = some o → b ∈ fs → ∃ sl, h1.get? b = some { o with slots := sl }) (fr : ∀ b ∈ fs, ∃ o, h1.get? b = some o ∧ ∀ vs, o.data ≠ .fields vs) (up : h1.UpToSlots h2) :
    Un fs [] H H' h h2 := by
  have sl2 : ∀ b o, h.get? b = some o → b ∈ fs → ∃ sl, h2.get? b = some { o with slots := sl } := fun b o e hb => by
    obtain ⟨sl, e1⟩ := slots b o e hb
    refine bg fun G' g' => ?_
    obtain ⟨o', ho', hd⟩ := fr b hb
    refine g' ?_
    clear g' G'
    rw [e1] at ho'
    cases ho'
    obtain ⟨sl', e2⟩ := up b _ e1 hd
    exact ⟨sl', e2⟩
  refine ⟨fun b o e n hb _ => st b o (un.keep b o e n hb), fun b o e _ hb _ => sl2 b o e hb, fun b o e n _ => un.free b o e n, fun b o e _ => ?_, un.tups, un.frzs, un.tbls⟩
  by_cases hb : b ∈ fs
  · obtain ⟨sl, q⟩ := sl2 b o e hb
    exact ⟨_, q⟩
  · obtain ⟨o', q⟩ := un.there b o e hb
    exact ⟨o', st b o' q⟩
theorem ps_try {C : Addr} {body : List Stmt} {b₀ : Stmt} {suite : List Stmt} {x : Str} {np hpos pos : Pos} {tb : XK → TS} {ts : TS} (XC : XCls X.K C) (hg : Gl X x) (hm : X.mg x = some (.ref C)) (hst : X.stack = X.env :: X.outer) (hfr : X.env.frame = some X.env.locals)
    (hb : ∀ (EX : XK) (pn : List (Addr × Obj)) (E' : Value → Shared → Prop), Passes (CXN X.prog X.w C) (X.tryc pn E') EX → PSs (X.tryc pn E') body (tb EX))
    (hs : ∀ e, PSs (X.caught e) (b₀ :: suite) ts) (hdb : (x == ("__debug__" : Str)) = false := by decide) :
    PS X (.Try body [.ExceptHandler (some (.Name x np)) none (b₀ :: suite) hpos] [] [] pos) (tTry tb ts) := by
  intro pins s σ H D I h
  have hcalm := I.ok.hd
  obtain ⟨E', hE'⟩ : ∃ E' : Value → Shared → Prop, E' = fun (ev : Value) (s₁ : Shared) => wpAny (model X.prog X.w) X.A (noteFrame ev X.env) (fun _ s₂ => wpAny (model X.prog X.w) X.A (setFlight ev none) (fun _ s₃ =>
    wpAny (model X.prog X.w) X.A (handleBy ev X.env [.ExceptHandler (some (.Name x np)) none (b₀ :: suite) hpos]) (SP X pins D) X.xe s₃) X.xe s₂) X.xe s₁ := ⟨_, rfl⟩
  have pass : Passes (CXN X.prog X.w C) (X.tryc (X.pn ++ pins) E') (fun _ _ H' => ∀ σ', ts D σ' H') := by
    intro pins' σ1 H1 s1 ev s' I1' cx
    have I1 : Inv X pins σ1 H1 s1 := I1'.untryc
    refine bg fun G' g' => ?_
    obtain ⟨e, a0, B, H', rfl, os, bare, fl, un, slots, hok, hE⟩ := cx
    refine g' ?_
    clear g' G'
    have fl : Heap.FlyingW B X.stack e (.ref C) a0 s'.heap := fl
    have un : UnB (frs X.stack) H1 H' s1.heap B := un
    have slots : ∀ b o, s1.heap.get? b = some o → b ∈ frs X.stack → ∃ sl, s'.heap.get? b = some { o with slots := sl } := slots
    have frm : ∀ b ∈ frs X.stack, ∃ o, s'.heap.get? b = some o ∧ ∀ vs, o.data ≠ .fields vs := fun b hb' => (fl.2.2.1.mem hb').2
    have inv : ∀ h2 : Heap, B.StaysIn h2 → s'.heap.UpToSlots h2 → Inv X pins σ1 H' { s' with heap := h2 } := fun h2 st up => by
      have := un_of_B un st slots frm up
      exact I1.call' (s' := { s' with heap := h2 }) (ch := []) os this (hok.kept fun b o q => st b o q) bare (fun _ z => nomatch z)
    rw [hE']
    have frs' : X.A.frames = some (X.env :: X.outer) := by rw [← hst]; exact I1.ok.frames
    rw [hst] at fl
    refine wpAny_looks_onW frs' hfr fl fun h4 held4 sm4 => ?_
    refine wpAny_landsW held4 fun h5 fl5 sm5 => ?_
    have I5 := inv h5 fl5.1 (sm4.trans sm5)
    refine bg fun G' g' => ?_
    obtain ⟨nm, q, Nn, bs, hdct, sn, sub, ab, col, dd, k0, k1, k2, k3, k5, lC, oN, es, ep, lN, dN, sk, ni⟩ := XC.ex
    refine g' ?_
    clear g' G'
    have hC5 := I5.kIn C _ lC
    refine bg fun G' g' => ?_
    obtain ⟨ob, hob, hobc⟩ := fl5.there
    refine g' ?_
    clear g' G'
    refine wpAny_handleBy_cons (codeAny_handlers_test (ld_glob (I5.caught e) hg hm ?_ hdb)) (by intro q; cases q)
    refine wpAny_excMatches_sub_self hC5 hob hobc PySem.F.excBase_Exception.hasBase ?_
    refine codeAny_handlers_suite (lands_againW fl5 fun h6 fl6 sm6 => ?_)
    have I6 := inv h6 fl6.1 ((sm4.trans sm5).trans sm6)
    refine wpAny_mono (hs e pins _ σ1 H' D (I6.caught e) (hE σ1)) (fun fl' s2 hq => ?_) fun _ _ z => False.elim z
    cases fl' with
    | next => obtain ⟨σ', H2, J, q⟩ := hq; exact ⟨σ', H2, J.uncaught hcalm, q⟩
    | brk => obtain ⟨σ', H2, J, q⟩ := hq; exact ⟨σ', H2, J.uncaught hcalm, q⟩
    | cont => obtain ⟨σ', H2, J, q⟩ := hq; exact ⟨σ', H2, J.uncaught hcalm, q⟩
    | ret u => obtain ⟨v, σ', H2, J, rv, q⟩ := hq; exact ⟨v, σ', H2, J.uncaught hcalm, rv, q⟩
  refine wpAny_Try_except ?_
  have hb' := hb _ (X.pn ++ pins) E' pass [] s σ H D (I.tryc E') h
  subst hE'
  refine wpAny_mono hb' (fun f s1 hq => ?_) fun _ _ z => z
  cases f with
  | next => obtain ⟨σ', H2, J, q⟩ := hq; exact wpAny_execs_nil ⟨σ', H2, J.untryc, q⟩
  | brk => obtain ⟨σ', H2, J, q⟩ := hq; exact ⟨σ', H2, J.untryc, q⟩
  | cont => obtain ⟨σ', H2, J, q⟩ := hq; exact ⟨σ', H2, J.untryc, q⟩
  | ret u => obtain ⟨v, σ', H2, J, rv, q⟩ := hq; exact ⟨v, σ', H2, J.untryc, rv, q⟩
end
end L2

set_option Elab.async false
set_option maxRecDepth 100000
namespace Cm
open PySem PySem.Spec L2 TL
open PyProof.Rows hiding St
theorem same_upd {H : Hp} {p : Addr} {o : HO} (hp : H p = none) : Same H (upd H p o) := fun b u e => by rw [upd_ne (ne_of_none e hp)]; exact e
theorem getI {ns : List Int} {i : Nat} {y : V} (h : (ns.map V.int)[i]? = some y) : ∃ z, y = V.int z ∧ ns[i]? = some z := by
  rw [List.getElem?_map] at h
  cases e : ns[i]? with
  | none => rw [e] at h; cases h
  | some z => rw [e] at h; exact ⟨z, (Option.some.inj h).symm, rfl⟩
theorem all_take_succ {α : Type} {p : α → Bool} {l : List α} {i : Nat} {z : α} (h : l[i]? = some z) : (l.take (i + 1)).all p = ((l.take i).all p && p z) := by
  rw [List.take_add_one, h]
  simp
theorem all_take_false {α : Type} {p : α → Bool} {l : List α} {i : Nat} {z : α} (h : l[i]? = some z) (hz : p z = false) : l.all p = false := by
  rw [← Bool.not_eq_true]
  intro h2
  have := List.all_eq_true.mp h2 z (List.mem_of_getElem? h)
  rw [hz] at this
  cases this
def nI (l : List Nat) : List V := l.map fun (n : Nat) => V.int (n : Int)
theorem nI_len (l : List Nat) : (nI l).length = l.length := by simp [nI]
theorem nI_app (l m : List Nat) : nI (l ++ m) = nI l ++ nI m := by simp [nI]
theorem nI_at {l : List Nat} {i : Nat} {n : Nat} (h : l[i]? = some n) : (nI l)[i]? = some (V.int (n : Int)) := by simp [nI, h]
theorem nI_get {l : List Nat} {i : Nat} {y : V} (h : (nI l)[i]? = some y) : ∃ n : Nat, y = V.int (n : Int) ∧ l[i]? = some n := by
  unfold nI at h
  rw [List.getElem?_map] at h
  cases e : l[i]? with
  | none => rw [e] at h; cases h
  | some z => rw [e] at h; exact ⟨z, (Option.some.inj h).symm, rfl⟩
theorem atI_of {xs : List V} {z : Int} {j : Nat} {v : V} (e : z = (j : Int)) (h : xs[j]? = some v) : atI xs z = some v := by
  subst e
  exact atI_nat h
theorem yesT {A B : Hp → Prop} {σ : St} {H : Hp} (h : A H) : tYes σ H (fun b H3 => if b = true then A H3 else B H3) := by
  show if true = true then A H else B H
  rw [if_pos rfl]
  exact h
theorem take_map_succ {α β : Type} (f : α → β) {l : List α} {i : Nat} {x : α} (h : l[i]? = some x) : (l.take (i + 1)).map f = (l.take i).map f ++ [f x] := by
  rw [List.take_add_one, h, List.map_append]
  rfl
theorem same_keep {H1 H' : Hp} {l : Addr} {o : HO} (s : Same H1 H') (hl : H1 l = none) : Same H1 (upd H' l o) := fun b u e => by rw [upd_ne (ne_of_none e hl)]; exact s b u e
def hide (H : Hp) (l : Addr) : Hp := fun b => if b = l then none else H b
theorem hide_ne {H : Hp} {l b : Addr} (h : b ≠ l) : hide H l b = H b := if_neg h
theorem hide_self {H : Hp} {l : Addr} : hide H l l = none := if_pos rfl
theorem hide_same {H : Hp} {l : Addr} : Same (hide H l) H := fun b o e => by
  by_cases h : b = l
  · subst h
    rw [hide_self] at e
    cases e
  · rw [hide_ne h] at e
    exact e
theorem hide_mono {H H' : Hp} {l : Addr} (s : Same H H') : Same (hide H l) (hide H' l) := fun b o e => by
  by_cases h : b = l
  · subst h
    rw [hide_self] at e
    cases e
  · rw [hide_ne h] at e ⊢
    exact s b o e
theorem hide_upd {H : Hp} {l : Addr} {o : HO} : hide (upd H l o) l = hide H l := by
  funext b
  by_cases h : b = l
  · subst h
    rw [hide_self, hide_self]
  · rw [hide_ne h, hide_ne h, upd_ne h]
theorem hide_in {H : Hp} {l b : Addr} {o : HO} (h : b ≠ l) (e : H b = some o) : hide H l b = some o := by rw [hide_ne h]; exact e
theorem hide_none {H H' : Hp} {l : Addr} (s : Same H H') (h : H l = none) : Same H (hide H' l) := fun b o e => by
  rw [hide_ne (ne_of_none e h)]
  exact s b o e
structure LL (H : Hp) (cs : List Addr) (xs : List (List Nat)) : Prop where
  len : cs.length = xs.length
  at_ : ∀ (j : Nat) (c : Addr) (x : List Nat), cs[j]? = some c → xs[j]? = some x → H c = some (.lst (nI x))
theorem LL.same {H H' : Hp} {cs : List Addr} {xs : List (List Nat)} (R : LL H cs xs) (s : Same H H') : LL H' cs xs := ⟨R.len, fun j a r h1 h2 => s _ _ (R.at_ j a r h1 h2)⟩
theorem snoc_at {α : Type} {l : List α} {x y : α} {j : Nat} (h : (l ++ [x])[j]? = some y) : (j < l.length ∧ l[j]? = some y) ∨ (j = l.length ∧ x = y) := by
  by_cases hj : j < l.length
  · rw [List.getElem?_append_left hj] at h
    exact .inl ⟨hj, h⟩
  · have hj2 : j = l.length := by
      have := (List.getElem?_eq_some_iff.mp h).1
      simp at this
      omega
    subst hj2
    rw [List.getElem?_append_right (Nat.le_refl _)] at h
    simp at h
    exact .inr ⟨rfl, h⟩
structure L3 (H : Hp) (as : List Addr) (xss : List (List (List Nat))) : Prop where
  len : as.length = xss.length
  at_ : ∀ (j : Nat) (a : Addr) (r : List (List Nat)), as[j]? = some a → xss[j]? = some r → ∃ cs : List Addr, H a = some (.lst (cs.map V.ref)) ∧ LL H cs r
theorem L3.same {H H' : Hp} {as : List Addr} {xss : List (List (List Nat))} (R : L3 H as xss) (s : Same H H') : L3 H' as xss :=
  ⟨R.len, fun j a r h1 h2 => let ⟨cs, e1, e2⟩ := R.at_ j a r h1 h2; ⟨cs, s _ _ e1, e2.same s⟩⟩
theorem L3.snoc {H : Hp} {as cs : List Addr} {xss : List (List (List Nat))} {a : Addr} {r : List (List Nat)} (R : L3 H as xss) (h : H a = some (.lst (cs.map V.ref))) (hr : LL H cs r) : L3 H (as ++ [a]) (xss ++ [r]) := by
  refine ⟨by simp [R.len], fun j b q h1 h2 => ?_⟩
  have hl := R.len
  rcases snoc_at h1 with ⟨a1, a2⟩ | ⟨a1, a2⟩ <;> rcases snoc_at h2 with ⟨b1, b2⟩ | ⟨b1, b2⟩
  · exact R.at_ j b q a2 b2
  · omega
  · omega
  · subst a2 b2
    exact ⟨cs, h, hr⟩
theorem cutV_n (ns : List Nat) (i n : Nat) : cutV (nI ns) (some (i : Int)) (some ((i : Int) + (n : Int))) = nI ((ns.drop i).take n) := by
  unfold cutV
  have e : (i : Int) + (n : Int) = ((i + n : Nat) : Int) := by omega
  rw [e, HT.sIx_nat, HT.sIx_nat, nI_len]
  unfold nI
  rw [← List.map_drop, ← List.map_take]
  congr 1
  by_cases h : i ≤ ns.length
  · rw [Nat.min_eq_left h]
    by_cases h2 : i + n ≤ ns.length
    · rw [Nat.min_eq_left h2]
      congr 1
      omega
    · rw [Nat.min_eq_right (by omega), List.take_of_length_le (by simp), List.take_of_length_le (by simp; omega)]
  · rw [List.drop_of_length_le (by omega), List.drop_of_length_le (by omega)]
    simp
theorem lc_str {x : Str} {g : TG} {tt : TT} {te : TE} {vs : List Nat} {σ : St} {H1 : Hp} {D : Addr} {Qd : Hp → Prop} (Pv : Nat → Hp → Prop) (h0 : Pv 0 (upd H1 D (.lst [])))
    (hs : ∀ i c H, x.cps[i]? = some c → Pv i H → g (.str ⟨#[c]⟩) (wipe σ vs) H fun σ2 H2 => wipe σ2 vs = wipe σ vs ∧ tt σ2 H2 fun b H3 =>
      if b = true then te σ2 H3 fun y H4 => ∃ acc, H4 D = some (.lst acc) ∧ acc.length < sizeLine ∧ Pv (i + 1) (upd H4 D (.lst (acc ++ [y]))) else Pv (i + 1) H3) (hd : ∀ H, Pv x.cps.size H → Qd H) :
    ∃ W : Nat → Nat → Hp → Prop, (∃ m, W 0 m (upd H1 D (.lst []))) ∧ ∀ i m H, W i m H →
      ((Its x).stop i H ∧ Qd H) ∨ ((Its x).go i H ∧ ∃ Nx : Hp → Prop, (∀ H', Nx H' → ∃ m', m' < m ∧ W (i + 1) m' H') ∧ ∀ y H', (Its x).yld i H y H' → g y (wipe σ vs) H' fun σ2 H2 => wipe σ2 vs = wipe σ vs ∧ tt σ2 H2 fun b H3 =>
        if b = true then te σ2 H3 fun y H4 => ∃ acc, H4 D = some (.lst acc) ∧ acc.length < sizeLine ∧ Nx (upd H4 D (.lst (acc ++ [y]))) else Nx H3) := by
  refine ⟨fun i m H => m = x.cps.size - i ∧ i ≤ x.cps.size ∧ Pv i H, ⟨x.cps.size, by simp, Nat.zero_le _, h0⟩, ?_⟩
  intro i m H h'
  refine bg fun G' g' => ?_
  obtain ⟨rfl, hi, p⟩ := h'
  refine g' ?_
  clear g' G'
  by_cases hlt : i < x.cps.size
  · refine .inr ⟨hlt, Pv (i + 1), fun H' p' => ⟨x.cps.size - (i + 1), by omega, rfl, hlt, p'⟩, fun y H' hy => ?_⟩
    refine bg fun G' g' => ?_
    obtain ⟨e, c, hc, hv⟩ := hy
    refine g' ?_
    clear g' G'
    subst e hv
    exact hs i c _ hc p
  · have e : i = x.cps.size := by omega
    subst e
    exact .inl ⟨Nat.le_refl _, hd H p⟩
def ModX (K : PySem.W.Frag) (a : Addr) (xs : List V) : Prop := ∃ (its : List Value) (n : Nat), K.lookup a = some { cls := .type "tuple", dict := none, data := .seq its.toArray n, slots := #[] } ∧ its.length ≤ sizeLine ∧ Vals xs its
theorem ModX.sq {K : PySem.W.Frag} {a : Addr} {xs : List V} (h : ModX K a xs) (H : Hp) : SqT K H a xs := by
  refine bg fun G' g' => ?_
  obtain ⟨its, n, h1, h2, h3⟩ := h
  refine g' ?_
  clear g' G'
  exact .inr ⟨_, its.toArray, n, h1, rfl, rfl, by simpa using h2, by simpa using h3⟩
theorem dpAll_n {K : PySem.W.Frag} {H : Hp} : ∀ x : List Nat, DpAll K H (nI x) (x.map fun (n : Nat) => PyData.int (n : Int))
  | [] => .nil
  | n :: r => .cons (.int _) (dpAll_n r)
theorem eqvAll_n : ∀ x y : List Nat, PyData.eqvAll (x.map fun (n : Nat) => PyData.int (n : Int)) (y.map fun (n : Nat) => PyData.int (n : Int)) = decide (x = y)
  | [], [] => by simp [PyData.eqvAll]
  | [], _ :: _ => by simp [PyData.eqvAll]
  | _ :: _, [] => by simp [PyData.eqvAll]
  | a :: x, b :: y => by
    simp only [List.map_cons, PyData.eqvAll, PyData.eqv, eqvAll_n x y]
    rw [Bool.eq_iff_iff]
    simp only [Bool.and_eq_true, beq_iff_eq, decide_eq_true_eq, List.cons.injEq]
    constructor <;> (rintro ⟨h1, h2⟩; exact ⟨by omega, h2⟩)
theorem shaped_n (x : List Nat) : SeqAt.shaped (.list (x.map fun (n : Nat) => PyData.int (n : Int))) = true := by
  have h1 : ∀ x : List Nat, PyData.canLayAll0 (x.map fun (n : Nat) => PyData.int (n : Int)) = true := fun x => by
    induction x with
    | nil => simp [PyData.canLayAll0]
    | cons a r ih => simp [PyData.canLayAll0, PyData.canLay0]; exact ih
  have h2 : ∀ x : List Nat, PyData.depthAll (x.map fun (n : Nat) => PyData.int (n : Int)) = 0 := fun x => by
    induction x with
    | nil => simp [PyData.depthAll]
    | cons a r ih => simp [PyData.depthAll, PyData.depth]; exact ih
  unfold SeqAt.shaped
  simp [PyData.canLay0, PyData.depth, h1, h2]
theorem range_map_succ {α : Type} (f : Nat → α) (n : Nat) : (List.range (n + 1)).map f = (List.range n).map f ++ [f n] := by
  rw [List.range_succ, List.map_append]
  rfl
inductive rExtendT (K : PySem.W.Frag) (x : V) (vs : List V) (H : Hp) (Q : VK) : Prop
  | mk (l : _) (b : _) (xs : _) (zs : _) (c_1 : x = .ref l) (c_2 : vs = [.ref b]) (c_3 : H l = some (.lst xs)) (c_4 : ModX K b zs) (c_5 : xs.length + zs.length ≤ sizeLine) (c_6 : Q .non (upd H l (.lst (xs ++ zs))))
theorem mt_extendT {X : Cx} : MtM X "list.extend" (rExtendT X.K) := by
  intro pins s σ H x vs v us Q I rx rv h
  refine bg fun G' g' => ?_
  obtain ⟨l, b, xs, zs, rfl, rfl, hH, ⟨its2, n2, hk, hz2, r2⟩, hz, q⟩ := h
  refine g' ?_
  clear g' G'
  cases rx
  refine bg fun G' g' => ?_
  obtain ⟨u, rfl, ru⟩ := rv.one
  refine g' ?_
  clear g' G'
  cases ru
  refine bg fun G' g' => ?_
  obtain ⟨z, its, n, r, hl, e⟩ := I.lstM hH
  refine g' ?_
  clear g' G'
  have e2 := I.kIn b _ hk
  have hl2 : zs.length = its2.length := r2.length
  have hsz : its.toArray.size + its2.toArray.size ≤ sizeLine := by rw [List.size_toArray, List.size_toArray]; omega
  have hlong : ¬ (!its.toArray.isEmpty && Builtin.List.listTooLong (its.toArray.size + its2.toArray.size)) = true := by
    rw [notLongL hsz, Bool.and_false]
    exact Bool.false_ne_true
  refine call_meets F.slot_list_extend ⟨_, e, rfl⟩ F.entry_list_extend (F.args_list_extend_2 _ _)
    (AutoSeq1.list_extend_list_tuple_0 l its.toArray n b its2.toArray n2 hlong (by rw [List.size_toArray]; (clear hlong hsz hl2 e2 e hz hz2 hk hH; omega)) (by (clear hlong hl2 e2 e hl z hz hz2 hk hH; omega))) ⟨e, e2, ?_⟩
  refine ⟨.non, _, I.lset (its' := its ++ its2) hH e (by simp) (r.append r2) ?_, rfl, q⟩
  rw [List.length_append]
  omega
theorem dp_tup {K : PySem.W.Frag} {H : Hp} {a : Addr} {x : List Nat} (h : SqT K H a (nI x)) : Dp K H (.ref a) (.tuple (x.map fun (n : Nat) => PyData.int (n : Int))) := .tup h (dpAll_n x)
theorem shaped_t (x : List Nat) : SeqAt.shaped (.tuple (x.map fun (n : Nat) => PyData.int (n : Int))) = true := by
  have h := shaped_n x
  unfold SeqAt.shaped at h ⊢
  simp only [PyData.canLay0, PyData.depth] at h ⊢
  exact h
theorem sq_but {K : PySem.W.Frag} {H H' : Hp} {rd a CR dx : Addr} {fs : List (Str × V)} {xs : List V} (h : SqL K H a xs) (hr : H rd = some (.ins CR dx fs)) (s : Same (hide H rd) H') : SqL K H' a xs := by
  rcases h with h | h
  · refine .inl ?_
    rcases h with h | ⟨o, h⟩
    · exact .inl (s _ _ (hide_in (ne_of h hr (by intro z; cases z)) h))
    · exact .inr ⟨o, s _ _ (hide_in (ne_of h hr (by intro z; cases z)) h)⟩
  · exact .inr h
theorem same_b {H H1 H2 : Hp} {rd : Addr} (a : Same (hide H rd) H1) (b : Same (hide H1 rd) H2) : Same (hide H rd) H2 := fun c o e => by
  have hc : c ≠ rd := fun z => by
    subst z
    rw [hide_self] at e
    cases e
  exact b c o (hide_in hc (a c o e))
theorem same_w {H : Hp} {rd : Addr} {o : HO} : Same (hide H rd) (upd H rd o) := fun c u e => by
  have hc : c ≠ rd := fun z => by
    subst z
    rw [hide_self] at e
    cases e
  rw [upd_ne hc]
  exact hide_same c u e
theorem nI_nats {ns : List Int} (h : ∀ n ∈ ns, 0 ≤ n) : ns.map V.int = nI (Sh27Neutral.nats ns) := by
  unfold nI Sh27Neutral.nats
  rw [List.map_map]
  apply List.map_congr_left
  intro n hn
  have := h n hn
  simp only [Function.comp]
  congr 1
  omega
theorem modX_mk {K : PySem.W.Frag} {h : Heap} {mg : Str → Option Value} (X : K.In h) (G : h.Ns mainGlobals mg) {x : Str} {a : Addr} {its : List Value} {n : Nat} {xs : List Nat} (g : PySem.W.nsIn K mainGlobals x = some (some (.ref a)))
    (l : K.lookup a = some { cls := .type "tuple", dict := none, data := .seq its.toArray n, slots := #[] }) (v : Vals (nI xs) its) (hz : its.length ≤ sizeLine) : ∃ a, mg x = some (.ref a) ∧ ModX K a (nI xs) := ⟨a, PySem.W.mg_of X G g, its, n, l, hz, v⟩
theorem int_mk {K : PySem.W.Frag} {h : Heap} {mg : Str → Option Value} (X : K.In h) (G : h.Ns mainGlobals mg) {x : Str} {i : Int} {t : Tok} (g : PySem.W.nsIn K mainGlobals x = some (some (.int i t))) : ∃ t, mg x = some (.int i t) := ⟨_, PySem.W.mg_of X G g⟩
def isStrKey : Value → Bool
  | .str _ _ => true
  | _ => false
theorem xcls_mk {K : PySem.W.Frag} {C N : Addr} {nm q : Str} {bs : List Value} {hdct : Bool} {sn : List Str} {sub : List Value} {ab : Bool} {col : Option Bool} {dd : Option Addr} {k0 k1 k2 k3 k5 : Option Value} {oc : Value} {od : Option Addr} {es : List DictEntry} {ep : Nat} {osl : Array (Option Value)}
    (l : K.lookup C = some (excClassObj nm q C N bs [.type "Exception", .type "BaseException", .type "object"] hdct sn sub ab col dd k0 k1 k2 k3 k5 "Exception.__new__"))
    (lN : K.lookup N = some ⟨oc, od, .dict es.toArray ep, osl⟩) (sk : (es.all fun e => isStrKey e.key) = true) (ni : PySem.W.nsIn K N "__init__" = some none) : XCls K C := by
  refine ⟨nm, q, N, bs, hdct, sn, sub, ab, col, dd, k0, k1, k2, k3, k5, l, _, es.toArray, ep, lN, rfl, ?_, ?_⟩
  · intro e he
    have h1 := List.all_eq_true.mp sk e (by simpa using he)
    cases hk : e.key with
    | str n t => exact ⟨n, t, rfl⟩
    | _ => rw [hk] at h1; cases h1
  · unfold PySem.W.nsIn at ni
    rw [lN] at ni
    dsimp only at ni
    unfold nsFind findBy
    rw [← Array.find?_toList]
    split at ni
    · cases ni
    · rename_i he
      rw [he]
      rfl
theorem ints_well {P : Params} {h : Heap} : ∀ (ns : List Int) (vs : List Value), PySem.W.WellAll P h vs (ns.map PySem.W.WData.int) → Vals (ns.map V.int) vs := fun ns vs w => L2.vals_ints (Att.ints_of_wellAll ns vs w)
section
variable {X : Cx}
def tCutS (t : TS) : TS := fun D σ H => ∃ J : St → Hp → Prop, t { D with nx := J } σ H ∧ ∀ σ' H', J σ' H' → D.nx σ' H'
theorem ps_cut {st : Stmt} {t : TS} (h : PS X st t) : PS X st (tCutS t) := by
  intro pins s σ H D I q
  refine bg fun G' g' => ?_
  obtain ⟨J, h1, h2⟩ := q
  refine g' ?_
  clear g' G'
  refine wpAny_mono (h pins s σ H { D with nx := J } I h1) (fun f s' q => ?_) fun _ _ x => x
  cases f with
  | next => obtain ⟨σ', H', I', q⟩ := q; exact ⟨σ', H', I', h2 _ _ q⟩
  | brk => exact q
  | cont => exact q
  | ret u => exact q
inductive tCutE (t : TE) (σ : St) (H : Hp) (Q : VK) : Prop
  | mk (J : V → Hp → Prop) (c_1 : t σ H J) (c_2 : ∀ v H', J v H' → Q v H')
theorem pe_cut {e : Expr} {t : TE} (h : PE X e t) : PE X e (tCutE t) := by
  intro pins s σ H Q I q
  refine bg fun G' g' => ?_
  obtain ⟨J, h1, h2⟩ := q
  refine g' ?_
  clear g' G'
  exact thn (h pins s σ H J I h1) fun u s' ⟨v, H', I', r, q⟩ => ⟨v, H', I', r, h2 _ _ q⟩
inductive tCutT (t : TT) (σ : St) (H : Hp) (Q : (Bool → Hp → Prop)) : Prop
  | mk (J : Bool → Hp → Prop) (c_1 : t σ H J) (c_2 : ∀ b H', J b H' → Q b H')
theorem pt_cut {e : Expr} {t : TT} (h : PT X e t) : PT X e (tCutT t) := by
  intro pins s σ H Q I q
  refine bg fun G' g' => ?_
  obtain ⟨J, h1, h2⟩ := q
  refine g' ?_
  clear g' G'
  exact thn (h pins s σ H J I h1) fun b s' ⟨H', I', q⟩ => ⟨H', I', h2 _ _ q⟩
end
structure Cs where
  Reader : Addr
  PieceReader : Addr
  NoSuchText : Addr
  TooGreat : Addr
  WrongPiece : Addr
  NoSuchSheet : Addr
theorem bnd0 {φ : List Value → Prop} (h : φ []) : ∀ us : List Value, us.length = 0 → φ us := by
  intro us e
  cases us with
  | nil => exact h
  | cons a t => exact absurd e (Nat.succ_ne_zero _)
theorem bndS {φ : List Value → Prop} {n : Nat} (h : ∀ (a : Value) (us : List Value), us.length = n → φ (a :: us)) : ∀ us : List Value, us.length = n + 1 → φ us := by
  intro us e
  cases us with
  | nil => exact absurd e.symm (Nat.succ_ne_zero _)
  | cons a t => exact h a t (Nat.succ.inj e)
theorem bnd1 {φ : List Value → Prop} (h : ∀ a0, φ [a0]) : ∀ us : List Value, us.length = 1 → φ us := bndS (φ := fun us => φ (us)) fun a0 => bnd0 (h a0)
theorem bnd2 {φ : List Value → Prop} (h : ∀ a0 a1, φ [a0, a1]) : ∀ us : List Value, us.length = 2 → φ us := bndS (φ := fun us => φ (us)) fun a0 => bndS (φ := fun us => φ (a0 :: us)) fun a1 => bnd0 (h a0 a1)
theorem bnd3 {φ : List Value → Prop} (h : ∀ a0 a1 a2, φ [a0, a1, a2]) : ∀ us : List Value, us.length = 3 → φ us := bndS (φ := fun us => φ (us)) fun a0 => bndS (φ := fun us => φ (a0 :: us)) fun a1 => bndS (φ := fun us => φ (a0 :: a1 :: us)) fun a2 => bnd0 (h a0 a1 a2)
theorem bnd5 {φ : List Value → Prop} (h : ∀ a0 a1 a2 a3 a4, φ [a0, a1, a2, a3, a4]) : ∀ us : List Value, us.length = 5 → φ us := bndS (φ := fun us => φ (us)) fun a0 => bndS (φ := fun us => φ (a0 :: us)) fun a1 => bndS (φ := fun us => φ (a0 :: a1 :: us)) fun a2 => bndS (φ := fun us => φ (a0 :: a1 :: a2 :: us)) fun a3 => bndS (φ := fun us => φ (a0 :: a1 :: a2 :: a3 :: us)) fun a4 => bnd0 (h a0 a1 a2 a3 a4)
structure Fn (K : PySem.W.Frag) (mg : Str → Option Value) (x : Str) (st : Stmt) (ps : List Str) : Prop where
  ex : ∃ (f : Addr) (fd : FuncData), Fun K x x st f fd ∧ mg x = some (.ref f) ∧ Binds K fd ps [] ∧ ∀ (s : Shared) (us : List Value), us.length = ps.length → BindsTo s fd ⟨us, []⟩ (ps.zip us)
structure GA (P : Program) (w : World) (K : PySem.W.Frag) (mg : Str → Option Value) (base : Heap) (CX : CXT) (k : Nat) (f : Addr) (ps : List Str) (sp : Sp) : Prop where
  ex : ∃ fd : FuncData, FnOk P w K mg base CX k f fd ps sp ∧ PySem.W.keepIn K (.ref f) = true ∧ Binds K fd ps [] ∧ ∃ (oc : Value) (od : Option Addr) (osl : Array (Option Value)), K.lookup f = some ⟨oc, od, .func fd, osl⟩
structure GF (P : Program) (w : World) (K : PySem.W.Frag) (mg : Str → Option Value) (base : Heap) (CX : CXT) (k : Nat) (x : Str) (ps : List Str) (sp : Sp) : Prop where
  ex : ∃ f : Addr, mg x = some (.ref f) ∧ GA P w K mg base CX k f ps sp
structure Mt (K : PySem.W.Frag) (C : Addr) (m q : Str) (st : Stmt) (ps : List Str) : Prop where
  ex : ∃ (f : Addr) (fd : FuncData), Fun K m q st f fd ∧ Binds K fd ps [] ∧ Meth K C m f
structure GM (P : Program) (w : World) (K : PySem.W.Frag) (mg : Str → Option Value) (base : Heap) (CX : CXT) (k : Nat) (C : Addr) (m : Str) (ps : List Str) (sp : Sp) : Prop where
  ex : ∃ (f : Addr) (fd : FuncData), FnOk P w K mg base CX k f fd ps sp ∧ Meth K C m f ∧ Binds K fd ps []
structure Ini (K : PySem.W.Frag) (C : Addr) (q : Str) (st : Stmt) (ps : List Str) : Prop where
  ex : ∃ (f : Addr) (fd : FuncData), Fun K "__init__" q st f fd ∧ Binds K fd ps [] ∧ Mk K C f
structure GI (P : Program) (w : World) (K : PySem.W.Frag) (mg : Str → Option Value) (base : Heap) (CX : CXT) (k : Nat) (C : Addr) (ps : List Str) (sp : Sp) : Prop where
  ex : ∃ (f : Addr) (fd : FuncData), FnOk P w K mg base CX k f fd ps sp ∧ Mk K C f ∧ Binds K fd ps []
section
variable {P : Program} {w : World} {K : PySem.W.Frag} {mg : Str → Option Value} {base : Heap} {CX : CXT} {k j : Nat} {x m q : Str} {C : Addr} {st : Stmt} {N ps : List Str} {sp : Sp}
theorem lk_of {f : Addr} {fd : FuncData} (F : Fun K x q st f fd) : ∃ (oc : Value) (od : Option Addr) (osl : Array (Option Value)), K.lookup f = some ⟨oc, od, .func fd, osl⟩ := by
  refine bg fun G' g' => ?_
  obtain ⟨oc, od, kV, doc, pm, an, cdv, ct, osl, _, lk, _⟩ := F.ex
  refine g' ?_
  clear g' G'
  exact ⟨oc, od, osl, lk⟩
theorem Fn.ok (F : Fn K mg x st ps) (S : FnScope N ps (defScope st)) (len : ∀ vs H Q E, sp vs H Q E → vs.length = ps.length)
    (hbody : ∀ (f : Addr) (cdv : Value) (A : Around) (outer : List Env) (s : Shared) (H : Hp) (vs : List V) (Q : VK) (E : XK), Room k (A.deeper (envOfC x (defScope st) s.heap.objs.size f cdv)) → sp vs H Q E →
      ∃ t, PSs (cxOf CX0 P w K mg base N x (defScope st) f cdv A outer s H E).nox (defBody st) t ∧ t { nx := fun _ H' => Q .non H', rt := Q } (start N vs) H) : GF P w K mg base CX0 (k + 1) x ps sp := by
  refine bg fun G' g' => ?_
  obtain ⟨f, fd, F, m, b, _⟩ := F.ex
  refine g' ?_
  clear g' G'
  exact ⟨f, m, fd, F.ok S len (hbody f), F.kp, b, lk_of F⟩
theorem Fn.okX (F : Fn K mg x st ps) (S : FnScope N ps (defScope st)) (len : ∀ vs H Q E, sp vs H Q E → vs.length = ps.length)
    (hbody : ∀ (f : Addr) (cdv : Value) (A : Around) (outer : List Env) (s : Shared) (H : Hp) (vs : List V) (Q : VK) (E : XK), Room k (A.deeper (envOfC x (defScope st) s.heap.objs.size f cdv)) → sp vs H Q E →
      ∃ t, PSs (cxOf CX P w K mg base N x (defScope st) f cdv A outer s H E) (defBody st) t ∧ t { nx := fun _ H' => Q .non H', rt := Q } (start N vs) H) : GF P w K mg base CX (k + 1) x ps sp := by
  refine bg fun G' g' => ?_
  obtain ⟨f, fd, F, m, b, _⟩ := F.ex
  refine g' ?_
  clear g' G'
  exact ⟨f, m, fd, F.okX S len (hbody f), F.kp, b, lk_of F⟩
theorem Mt.ok (F : Mt K C m q st ps) (S : FnScope N ps (defScope st)) (len : ∀ vs H Q E, sp vs H Q E → vs.length = ps.length)
    (hbody : ∀ (f : Addr) (cdv : Value) (A : Around) (outer : List Env) (s : Shared) (H : Hp) (vs : List V) (Q : VK) (E : XK), Room k (A.deeper (envOfC q (defScope st) s.heap.objs.size f cdv)) → sp vs H Q E →
      ∃ t, PSs (cxOf CX0 P w K mg base N q (defScope st) f cdv A outer s H E).nox (defBody st) t ∧ t { nx := fun _ H' => Q .non H', rt := Q } (start N vs) H) : GM P w K mg base CX0 (k + 1) C m ps sp := by
  refine bg fun G' g' => ?_
  obtain ⟨f, fd, F, b, mt⟩ := F.ex
  refine g' ?_
  clear g' G'
  exact ⟨f, fd, F.ok S len (hbody f), mt, b⟩
theorem Mt.okX (F : Mt K C m q st ps) (S : FnScope N ps (defScope st)) (len : ∀ vs H Q E, sp vs H Q E → vs.length = ps.length)
    (hbody : ∀ (f : Addr) (cdv : Value) (A : Around) (outer : List Env) (s : Shared) (H : Hp) (vs : List V) (Q : VK) (E : XK), Room k (A.deeper (envOfC q (defScope st) s.heap.objs.size f cdv)) → sp vs H Q E →
      ∃ t, PSs (cxOf CX P w K mg base N q (defScope st) f cdv A outer s H E) (defBody st) t ∧ t { nx := fun _ H' => Q .non H', rt := Q } (start N vs) H) : GM P w K mg base CX (k + 1) C m ps sp := by
  refine bg fun G' g' => ?_
  obtain ⟨f, fd, F, b, mt⟩ := F.ex
  refine g' ?_
  clear g' G'
  exact ⟨f, fd, F.okX S len (hbody f), mt, b⟩
theorem Ini.ok (F : Ini K C q st ps) (S : FnScope N ps (defScope st)) (len : ∀ vs H Q E, sp vs H Q E → vs.length = ps.length)
    (hbody : ∀ (f : Addr) (cdv : Value) (A : Around) (outer : List Env) (s : Shared) (H : Hp) (vs : List V) (Q : VK) (E : XK), Room k (A.deeper (envOfC q (defScope st) s.heap.objs.size f cdv)) → sp vs H Q E →
      ∃ t, PSs (cxOf CX0 P w K mg base N q (defScope st) f cdv A outer s H E).nox (defBody st) t ∧ t { nx := fun _ H' => Q .non H', rt := Q } (start N vs) H) : GI P w K mg base CX0 (k + 1) C ps sp := by
  refine bg fun G' g' => ?_
  obtain ⟨f, fd, F, b, mk⟩ := F.ex
  refine g' ?_
  clear g' G'
  exact ⟨f, fd, F.ok S len (hbody f), mk, b⟩
end
section
variable {X : Cx} {CX : CXT} {k j : Nat} {f C : Addr} {ps : List Str} {sp : Sp} {E : XK} {x m : Str} {p pos apos : Pos} {e o : Expr} {es : List Expr} {ta : TE} {t : TA}
theorem pe_callG (G : GF X.prog X.w X.K X.mg X.base CX k x ps sp) (hr : Room j X.A) (hx : Passes CX X E) (ha : PA X (e :: es) t) (hg : Gl X x := by rfl) (hk : k ≤ j := by decide)
    (hdb : (x == ("__debug__" : Str)) = false := by decide) (he : starEach (e :: es) X.env = (false, eval e X.env) :: starEach es X.env := by rfl) (hpl : (backTo pos (starEach es X.env)).any (·.1) = false := by rfl) :
    PE X (.Call (.Name x p) (e :: es) [] pos) (tCall sp [] E t) := by
  refine bg fun G' g' => ?_
  obtain ⟨f, hm, fd, F, kp, b, _⟩ := G.ex
  refine g' ?_
  clear g' G'
  exact pe_call F (hr.mono hk) hg hm kp b .nil hx ha hdb he hpl
theorem pe_methG {pl : Sem Bool} (he : PE X o ta) (c : Cls X.K C) (G : GM X.prog X.w X.K X.mg X.base CX k C m ps sp) (hr : Room j X.A) (hx : Passes CX X E) (ha : PA X (e :: es) t) (hk : k ≤ j := by decide)
    (hst : starEach (e :: es) X.env = (false, eval e X.env) :: starEach es X.env := by rfl) (hpl : (backTo pos (starEach es X.env)).any (·.1) = false := by rfl)
    (ht : eval (.Call (.Attribute o m apos) (e :: es) [] pos) X.env = (do
      let ov ← eval o X.env
      standAt apos.atName
      let (f, first) ← holding [ov] (getMethod ov m pl)
      callWith pos f first (backTo pos (starEach (e :: es) X.env)) (backToKw pos (keywordEach [] X.env))) := by rfl) :
    PE X (.Call (.Attribute o m apos) (e :: es) [] pos) (tMeth C m sp [] E ta t) := by
  refine bg fun G' g' => ?_
  obtain ⟨f, fd, F, mt, b⟩ := G.ex
  refine g' ?_
  clear g' G'
  exact pe_meth he c mt F (hr.mono hk) b .nil hx ha hst hpl ht
theorem pe_methG0 {pl : Sem Bool} (he : PE X o ta) (c : Cls X.K C) (G : GM X.prog X.w X.K X.mg X.base CX k C m ps sp) (hr : Room j X.A) (hx : Passes CX X E) (hk : k ≤ j := by decide)
    (ht : eval (.Call (.Attribute o m apos) [] [] pos) X.env = (do
      let ov ← eval o X.env
      standAt apos.atName
      let (f, first) ← holding [ov] (getMethod ov m pl)
      callWith pos f first (backTo pos (starEach [] X.env)) (backToKw pos (keywordEach [] X.env))) := by rfl) :
    PE X (.Call (.Attribute o m apos) [] [] pos) (tMeth C m sp [] E ta tNil) := by
  refine bg fun G' g' => ?_
  obtain ⟨f, fd, F, mt, b⟩ := G.ex
  refine g' ?_
  clear g' G'
  exact pe_meth0 he c mt F (hr.mono hk) b .nil hx ht
theorem pe_makeG (G : GI X.prog X.w X.K X.mg X.base CX k C ps sp) (hm : X.mg x = some (.ref C)) (hr : Room j X.A) (hx : Passes CX X E) (ha : PA X (e :: es) t) (hg : Gl X x := by rfl) (hk : k + 1 ≤ j := by decide)
    (hdb : (x == ("__debug__" : Str)) = false := by decide) (he : starEach (e :: es) X.env = (false, eval e X.env) :: starEach es X.env := by rfl) (hpl : (backTo pos (starEach es X.env)).any (·.1) = false := by rfl) :
    PE X (.Call (.Name x p) (e :: es) [] pos) (tMake C sp [] E t) := by
  refine bg fun G' g' => ?_
  obtain ⟨f, fd, F, M, b⟩ := G.ex
  refine g' ?_
  clear g' G'
  exact pe_make M F (hr.mono hk) hg hm b .nil hx ha hdb he hpl
def tCallL (i : Nat) (f : Addr) (sp : Sp) (E : XK) (t : TA) : TE := fun σ H Q => σ[i]? = some (some (.ref f)) ∧ t σ H fun vs H1 => sp (vs ++ []) H1 Q E
theorem pe_callL {i : Nat} (G : GA X.prog X.w X.K X.mg X.base CX k f ps sp) (hr : Room j X.A) (hx : Passes CX X E) (ha : PA X (e :: es) t) (hN : X.N[i]? = some x := by rfl) (hv : X.env.kindOf x = some .local := by rfl) (hk : k ≤ j := by decide)
    (hdb : (x == ("__debug__" : Str)) = false := by decide) (he : starEach (e :: es) X.env = (false, eval e X.env) :: starEach es X.env := by rfl) (hpl : (backTo pos (starEach es X.env)).any (·.1) = false := by rfl) :
    PE X (.Call (.Name x p) (e :: es) [] pos) (tCallL i f sp E t) := by
  refine bg fun G' g' => ?_
  obtain ⟨fd, F, kp, b, _⟩ := G.ex
  refine g' ?_
  clear g' G'
  intro pins s σ H Q I h
  obtain ⟨hσ, h⟩ := h
  refine bg fun G' g' => ?_
  obtain ⟨m, hn, hl⟩ := I.loc
  refine g' ?_
  clear g' G'
  refine bg fun G' g' => ?_
  obtain ⟨u, r, l⟩ := hl i x _ hN hσ (.inl hv)
  refine g' ?_
  clear g' G'
  have hu : u = Value.ref f := r
  subst hu
  have hm : m x = some (Value.ref f) := by
    rcases l with ⟨_, hm⟩ | ⟨hk', _⟩
    · exact hm
    · rw [hv] at hk'
      rcases hk' with z | z <;> cases z
  refine wpAny_Call_Name_kw (wpAny_Name (wpAny_loadName_local I.ok.kind hv hn hm ?_) hdb)
  refine PySem.W.callWith_K (h₀ := X.base) I.ok.mod.kin kp (thn (ha pos pins s σ H _ I h) fun us s1 ⟨vs, H1, I1, r, q⟩ => ⟨I1.kIn, ?_⟩) he hpl
  exact run_fn F (hr.mono hk) b .nil hx I1 r q
end
theorem entry {P : Program} {w : World} {K : PySem.W.Frag} {mg : Str → Option Value} {CX : CXT} {k : Nat} {x : Str} {st : Stmt} {ps : List Str} {sp : Sp} {fa : Addr} (F : Fn K mg x st ps)
    (G : ∀ base : Heap, K.In base → base.Ns mainGlobals mg → GF P w K mg base CX k x ps sp) (hm : mg x = some (.ref fa)) :
    ∃ fd : FuncData, (∀ (s : Shared) (us : List Value), us.length = ps.length → BindsTo s fd ⟨us, []⟩ (ps.zip us)) ∧ ∀ base : Heap, K.In base → base.Ns mainGlobals mg → FnOk P w K mg base CX k fa fd ps sp := by
  refine bg fun G' g' => ?_
  obtain ⟨f, fd, F, m, b, q⟩ := F.ex
  refine g' ?_
  clear g' G'
  rw [hm] at m
  cases m
  refine ⟨fd, q, fun base kb nb => ?_⟩
  refine bg fun G' g' => ?_
  obtain ⟨f2, m2, fd2, F2, _, _, oc2, od2, osl2, l2⟩ := (G base kb nb).ex
  refine g' ?_
  clear g' G'
  rw [hm] at m2
  cases m2
  refine bg fun G' g' => ?_
  obtain ⟨oc, od, osl, l⟩ := lk_of F
  refine g' ?_
  clear g' G'
  rw [l] at l2
  cases l2
  exact F2
def Fresh (H : Hp) (xs : List V) (Q : VK) : Prop := ∀ (l : Addr) (H' : Hp), H l = none → H' l = some (.lst xs) → Same H H' → Q (.ref l) H'
theorem Fresh.upd {H : Hp} {xs : List V} {Q : VK} (h : Fresh H xs Q) {l : Addr} (hl : H l = none) : Q (.ref l) (upd H l (.lst xs)) := h l _ hl upd_same (same_upd hl)
theorem fn_mk {K : PySem.W.Frag} {h : Heap} {mg : Str → Option Value} (X : K.In h) (G : h.Ns mainGlobals mg) {x : Str} {st : Stmt} {ps : List Str} {f : Addr} {oc : Value} {od an : Option Addr} {osl : Array (Option Value)} {kV doc pm cdv ct : Value}
    (a : PySem.W.nsIn K mainGlobals x = some (some (.ref f))) (l : K.lookup f = some ⟨oc, od, .func (PySem.W.fnOf x x (defArgs st) (defBody st) (defScope st) .none kV doc pm an cdv ct), osl⟩) (c : PySem.W.codeIn K cdv x = true) (k : PySem.W.keepIn K (.ref f) = true)
    (b : ∀ (kV doc pm : Value) (an : Option Addr) (cdv ct : Value) (us : List Value), us.length = ps.length → bindArgs (PySem.W.fnOf x x (defArgs st) (defBody st) (defScope st) .none kV doc pm an cdv ct) ⟨us, []⟩ = pure (ps.zip us)) : Fn K mg x st ps := by
  have F := fun_mk (st := st) l c k
  exact ⟨f, _, F, PySem.W.mg_of X G a, F.binds b, fun s us hl => .of_eq (b _ _ _ _ _ _ us hl)⟩
theorem mt_mk {K : PySem.W.Frag} {C : Addr} {m q : Str} {st : Stmt} {ps : List Str} {f : Addr} {oc : Value} {od an : Option Addr} {osl : Array (Option Value)} {kV doc pm cdv ct : Value}
    (a : PySem.W.findIn K (.ref C) m = some (some (.ref f))) (i : PySem.W.isFn K (.ref f) = true) (l : K.lookup f = some ⟨oc, od, .func (PySem.W.fnOf m q (defArgs st) (defBody st) (defScope st) .none kV doc pm an cdv ct), osl⟩) (c : PySem.W.codeIn K cdv q = true) (k : PySem.W.keepIn K (.ref f) = true)
    (b : ∀ (kV doc pm : Value) (an : Option Addr) (cdv ct : Value) (us : List Value), us.length = ps.length → bindArgs (PySem.W.fnOf m q (defArgs st) (defBody st) (defScope st) .none kV doc pm an cdv ct) ⟨us, []⟩ = pure (ps.zip us)) : Mt K C m q st ps := by
  have F := fun_mk (st := st) l c k
  exact ⟨f, _, F, F.binds b, ⟨a, i, k⟩⟩
theorem ini_mk {K : PySem.W.Frag} {C : Addr} {q : Str} {st : Stmt} {ps : List Str} {f : Addr} {oc : Value} {od an : Option Addr} {osl : Array (Option Value)} {kV doc pm cdv ct : Value}
    (mk : PySem.W.makesIn K C = true) (kc : PySem.W.keepIn K (.ref C) = true)
    (a : PySem.W.findIn K (.ref C) "__init__" = some (some (.ref f))) (i : PySem.W.isFn K (.ref f) = true) (l : K.lookup f = some ⟨oc, od, .func (PySem.W.fnOf "__init__" q (defArgs st) (defBody st) (defScope st) .none kV doc pm an cdv ct), osl⟩) (c : PySem.W.codeIn K cdv q = true) (k : PySem.W.keepIn K (.ref f) = true)
    (b : ∀ (kV doc pm : Value) (an : Option Addr) (cdv ct : Value) (us : List Value), us.length = ps.length → bindArgs (PySem.W.fnOf "__init__" q (defArgs st) (defBody st) (defScope st) .none kV doc pm an cdv ct) ⟨us, []⟩ = pure (ps.zip us)) : Ini K C q st ps := by
  have F := fun_mk (st := st) l c k
  exact ⟨f, _, F, F.binds b, ⟨mk, a, i, kc⟩⟩
end Cm

set_option Elab.async false
set_option maxRecDepth 100000
namespace Crc
open Sh27
end Crc

set_option Elab.async false
set_option maxRecDepth 100000
namespace Cm
open PySem L2 TL
open PyProof.Rows hiding St
inductive rMaxL (K : PySem.W.Frag) (xs : List V) (H : Hp) (Q : VK) : Prop
  | mk (a : Addr) (ns : List Int) (c_1 : xs = [.ref a]) (c_2 : SqL K H a (ns.map V.int)) (c_3 : 0 < ns.length) (c_4 : ∀ M, M ∈ ns → (∀ x ∈ ns, x ≤ M) → Q (.int M) H)
def rLenS (K : PySem.W.Frag) : List V → Hp → VK → Prop := fun xs H Q => ∃ p ys, xs = [.ref p] ∧ (SqL K H p ys ∨ SqT K H p ys) ∧ Q (.int ys.length) H
theorem call_lenS {X : Cx} : CallR X (.builtin "len") (rLenS X.K) := call_len_seq
section
variable {X : Cx}
theorem call_maxL (hc : X.calm = true) : CallR X (.builtin "max") (rMaxL X.K) := by
  intro pins s σ H xs us Q I r h
  refine bg fun G' g' => ?_
  obtain ⟨a, ns, rfl, hS, hne, q⟩ := h
  refine g' ?_
  clear g' G'
  refine bg fun G' g' => ?_
  obtain ⟨u, rfl, rx⟩ := vals1 r
  refine g' ?_
  clear g' G'
  cases rx
  refine bg fun G' g' => ?_
  obtain ⟨its, rv, p, hz⟩ := I.list hS
  refine g' ?_
  clear g' G'
  have hi := rv.ints
  obtain ⟨ys, e⟩ := hi.allInts.items
  have hns : ns = ys.toList.map (·.1) := by
    rw [← hi.numsOf, ← nums_intItems, ← e]
  have hsz : 0 < ys.size := by
    have h3 := hne; rw [hns, List.length_map, Array.length_toList] at h3; exact h3
  have hl := p.isList
  rw [e] at hl
  refine max_intList (I.ok.hd hc) hl hsz fun v h' tk hv hk => ?_
  obtain ⟨t, rfl⟩ := intItems_at hv
  obtain ⟨h1, h2⟩ := argBest_gt (numAt ys) (ys.size - 1)
  refine ⟨.int _, H, I.kept hk, ⟨t, rfl⟩, q _ ?_ fun b hb => ?_⟩
  · rw [hns, numAt_eq]; exact getD_mem (by rw [List.length_map, Array.length_toList]; (clear hv hns e hz hne hc; omega))
  · rw [hns] at hb
    refine bg fun G' g' => ?_
    obtain ⟨j, hj, rfl⟩ := mem_getD hb
    refine g' ?_
    clear g' G'
    rw [List.length_map, Array.length_toList] at hj
    rw [← numAt_eq]; exact h2 j (by (clear h1 hv hns e hz hne hc; omega))
end
end Cm

set_option Elab.async false
set_option maxRecDepth 100000
namespace Cm
open PySem L2 TL
def inB (lo hi n : Int) : Bool := decide (lo ≤ n) && decide (n ≤ hi)
inductive spAllW (K : PySem.W.Frag) (vs : List V) (H : Hp) (Q : VK) (E_ : XK) : Prop
  | mk (a : Addr) (ns : List Int) (lo hi : Int) (c_1 : vs = [.ref a, .int lo, .int hi]) (c_2 : SqL K H a (ns.map V.int)) (c_3 : Q (.bl (ns.all (inB lo hi))) H)
def textB (most : Int) (ns : List Int) : Bool := decide ((ns.length : Int) ≤ most) && ns.all (inB 0 255)
inductive spText (K : PySem.W.Frag) (vs : List V) (H : Hp) (Q : VK) (E_ : XK) : Prop
  | mk (a : Addr) (ns : List Int) (most : Int) (c_1 : vs = [.ref a, .int most]) (c_2 : SqL K H a (ns.map V.int)) (c_3 : Q (.bl (textB most ns)) H)
inductive spList (F : List Int → List Int) (asked : List Int → Bool) (top m : Nat) (K : PySem.W.Frag) (vs : List V) (H : Hp) (Q : VK) (E_ : XK) : Prop
  | mk (a : Addr) (ns : List Int) (c_1 : vs = [.ref a]) (c_2 : SqL K H a (ns.map V.int)) (c_3 : (∀ n ∈ ns, 0 ≤ n ∧ n ≤ (top : Nat))) (c_4 : ns.length ≤ m) (c_5 : asked ns = true) (c_6 : ∀ (l : Addr) (H' : Hp), H' l = some (.lst ((F ns).map V.int)) → Q (.ref l) H')
theorem all_nats {ns : List Int} (h : ∀ n ∈ ns, 0 ≤ n) : ((Sh27Neutral.nats ns).all fun x => decide (x < 256)) = ns.all (inB 0 255) := by
  unfold Sh27Neutral.nats
  rw [List.all_map]
  induction ns with
  | nil => rfl
  | cons n r ih =>
    rw [List.all_cons, List.all_cons, ih (fun m hm => h m (List.mem_cons_of_mem _ hm))]
    congr 1
    have := h n (List.mem_cons_self ..)
    unfold inB
    rw [Bool.eq_iff_iff]
    simp only [Function.comp, Bool.and_eq_true, decide_eq_true_eq]
    omega
theorem bytes_eq {ns : List Int} {most : Nat} (h : ∀ n ∈ ns, 0 ≤ n) : Sh27.isBytes (Sh27Neutral.nats ns) most = textB (most : Nat) ns := by
  unfold Sh27.isBytes textB
  rw [all_nats h]
  congr 1
  have e1 : (Sh27Neutral.nats ns).length = ns.length := by simp [Sh27Neutral.nats]
  rw [e1, Bool.eq_iff_iff]
  simp only [decide_eq_true_eq]
  omega
end Cm

set_option Elab.async false
namespace Kp
open Sh27
end Kp

set_option Elab.async false
namespace Kp
open Sh27
end Kp

set_option Elab.async false
set_option maxRecDepth 100000
namespace Cm
open PySem L2 TL
end Cm

set_option Elab.async false
set_option maxRecDepth 100000
namespace Cm
open PySem L2 TL
inductive spBytes (vs : List V) (H : Hp) (Q : VK) (E_ : XK) : Prop
  | mk (x : Str) (c_1 : vs = [.str x]) (c_2 : (tl x).length ≤ 100000) (c_3 : Fresh H (nI (tl x)) Q)
end Cm

set_option Elab.async false
set_option maxRecDepth 100000
set_option linter.all false
namespace Cm
open PySem L2 TL
structure LLN (H : Hp) (l : Addr) (H' : Hp) (as : List Addr) (xs : List (List Nat)) : Prop where
  len : as.length = xs.length
  at_ : ∀ (j : Nat) (a : Addr) (x : List Nat), as[j]? = some a → xs[j]? = some x → H a = none ∧ a ≠ l ∧ H' a = some (.lst (nI x))
theorem LLN.same {H H' H'' : Hp} {l : Addr} {as : List Addr} {xs : List (List Nat)} (R : LLN H l H' as xs) (s : Same (hide H' l) H'') : LLN H l H'' as xs :=
  ⟨R.len, fun j a x h1 h2 => let ⟨a1, a2, a3⟩ := R.at_ j a x h1 h2; ⟨a1, a2, s _ _ (hide_in a2 a3)⟩⟩
theorem LLN.snoc {H H' : Hp} {l : Addr} {as : List Addr} {xs : List (List Nat)} {a : Addr} {x : List Nat} (R : LLN H l H' as xs) (h0 : H a = none) (h1 : a ≠ l) (h2 : H' a = some (.lst (nI x))) : LLN H l H' (as ++ [a]) (xs ++ [x]) := by
  refine ⟨by simp [R.len], fun j b q e1 e2 => ?_⟩
  have hl := R.len
  rcases snoc_at e1 with ⟨a1, a2⟩ | ⟨a1, a2⟩ <;> rcases snoc_at e2 with ⟨b1, b2⟩ | ⟨b1, b2⟩
  · exact R.at_ j b q a2 b2
  · omega
  · omega
  · subst a2 b2
    exact ⟨h0, h1, h2⟩
end Cm

set_option Elab.async false
set_option linter.all false
namespace Rd
open Sh27
def takeP (w r : List Nat) : Option (List Nat) := if r.take w.length = w then some (r.drop w.length) else none
def byteR (lo hi : Nat) : List Nat → Option (Nat × List Nat)
  | [] => none
  | b :: r => if lo ≤ b ∧ b ≤ hi then some (b, r) else none
theorem linesOf_text : ∀ (bs : List (List Nat)) (k : Nat), (∀ b ∈ bs, ∀ x ∈ b, x ≠ 10) → (bs.flatMap fun b => b ++ [10]).length < k → linesOf k (bs.flatMap fun b => b ++ [10]) = some bs
  | [], k + 1, _, _ => rfl
  | _, 0, _, h => by omega
  | b :: rest, k + 1, h, hl => by
    have hb := h b (List.mem_cons_self ..)
    have et : (b ++ 10 :: rest.flatMap fun b => b ++ [10]).takeWhile (fun c => c != LF) = b := by
      rw [List.takeWhile_append_of_pos (fun x hx => by have := hb x hx; simpa [LF] using this)]
      simp [LF]
    have e : (b :: rest).flatMap (fun b => b ++ [10]) = b ++ 10 :: rest.flatMap fun b => b ++ [10] := by simp
    rw [e]
    have hne : b ++ 10 :: (rest.flatMap fun b => b ++ [10]) ≠ [] := by simp
    have key : ∀ (u : List Nat), u ≠ [] → linesOf (k + 1) u = (let a := u.takeWhile fun c => c != LF
      if a.length = u.length then none else (linesOf k (u.drop (a.length + 1))).map fun r => a :: r) := fun u hu => by
      cases u with
      | nil => exact absurd rfl hu
      | cons x q => rfl
    · rw [key _ hne]
      try dsimp only
      rw [et, if_neg (by simp)]
      have ed : (b ++ 10 :: rest.flatMap fun b => b ++ [10]).drop (b.length + 1) = rest.flatMap fun b => b ++ [10] := by
        rw [List.drop_append]
        simp
      rw [ed, linesOf_text rest k (fun x hx => h x (List.mem_cons_of_mem _ hx)) (by rw [e] at hl; simp at hl ⊢; omega)]
      rfl
end Rd

set_option Elab.async false
set_option linter.all false
set_option maxRecDepth 100000
namespace Rd
open Sh27
theorem byteR_cons (lo hi b : Nat) (r : List Nat) : byteR lo hi (b :: r) = if lo ≤ b ∧ b ≤ hi then some (b, r) else none := rfl
theorem byteR_iff (lo hi : Nat) (r : List Nat) (b : Nat) (r' : List Nat) : byteR lo hi r = some (b, r') ↔ (lo ≤ b ∧ b ≤ hi) ∧ r = b :: r' := by
  cases r with
  | nil => simp [byteR]
  | cons x q =>
    have e : byteR lo hi (x :: q) = if lo ≤ x ∧ x ≤ hi then some (x, q) else none := rfl
    rw [e]
    constructor
    · intro h
      by_cases hx : lo ≤ x ∧ x ≤ hi
      · rw [if_pos hx] at h
        cases h
        exact ⟨hx, rfl⟩
      · rw [if_neg hx] at h
        cases h
    · rintro ⟨h1, h2⟩
      cases h2
      rw [if_pos h1]
end Rd

set_option Elab.async false
set_option linter.all false
set_option maxRecDepth 100000
namespace Rd
open Sh27
end Rd

set_option Elab.async false
set_option maxRecDepth 100000
set_option linter.all false
namespace Cm
open PySem L2 TL Rd
def rf (a : Addr) (p : Nat) : List (Str × V) := putF "at" (.int (p : Nat)) (putF "text" (.ref a) [])
theorem tne : ¬ (("text" : Str) = "at") := by decide +kernel
theorem rf_eq (a : Addr) (p : Nat) : rf a p = ([("text", V.ref a), ("at", V.int (p : Nat))] : List (Str × V)) := by
  show (if ("text" : Str) = "at" then [(("text" : Str), V.int (p : Nat))] else (("text" : Str), V.ref a) :: putF "at" (V.int (p : Nat)) []) = ([("text", V.ref a), ("at", V.int (p : Nat))] : List (Str × V))
  rw [if_neg tne]
  all_goals rfl
theorem rf_text (a : Addr) (p : Nat) : (rf a p).lookup ("text" : Str) = some (.ref a) := by
  unfold rf
  rw [lookup_putF, if_neg tne, lookup_putF, if_pos rfl]
theorem rf_at (a : Addr) (p : Nat) : (rf a p).lookup ("at" : Str) = some (.int (p : Nat)) := by
  unfold rf
  rw [lookup_putF, if_pos rfl]
theorem rf_no (a : Addr) (p : Nat) {m : Str} (h1 : ¬ m = "at") (h2 : ¬ m = "text") : (rf a p).lookup m = none := by
  unfold rf
  rw [lookup_putF, if_neg h1, lookup_putF, if_neg h2]
  all_goals rfl
theorem rf_put (a : Addr) (p q : Nat) : putF "at" (.int (q : Nat)) (rf a p) = rf a q := by
  rw [rf_eq, rf_eq]
  show (if ("text" : Str) = "at" then _ else (("text" : Str), V.ref a) :: (if ("at" : Str) = "at" then [(("at" : Str), V.int (q : Nat))] else _)) = ([("text", V.ref a), ("at", V.int (q : Nat))] : List (Str × V))
  rw [if_neg tne, if_pos rfl]
theorem rf_len (a : Addr) (p : Nat) : (rf a p).length < 1000 := by
  rw [rf_eq]
  show 2 < 1000
  decide
structure Rd1 (K : PySem.W.Frag) (CR : Addr) (H : Hp) (rd a : Addr) (t : List Nat) (p : Nat) : Prop where
  ob : ∃ dx, H rd = some (.ins CR dx (rf a p))
  tx : SqL K H a (nI t)
  le : p ≤ t.length
  size : t.length ≤ 1000000
theorem Rd1.ne {K : PySem.W.Frag} {CR : Addr} {H : Hp} {rd a : Addr} {t : List Nat} {p : Nat} (R : Rd1 K CR H rd a t p) {b : Addr} (hb : H b = none) : b ≠ rd := fun z => by
  obtain ⟨dx, e⟩ := R.ob
  rw [z, e] at hb
  cases hb
theorem Rd1.go {K : PySem.W.Frag} {CR : Addr} {H H' : Hp} {rd a : Addr} {t : List Nat} {p q : Nat} (R : Rd1 K CR H rd a t p) (s : Same (hide H rd) H') (h : ∃ dx, H' rd = some (.ins CR dx (rf a q))) (hq : q ≤ t.length) : Rd1 K CR H' rd a t q := by
  obtain ⟨dx, e⟩ := R.ob
  exact ⟨h, sq_but R.tx e s, hq, R.size⟩
theorem Rd1.same {K : PySem.W.Frag} {CR : Addr} {H H' : Hp} {rd a : Addr} {t : List Nat} {p : Nat} (R : Rd1 K CR H rd a t p) (s : Same H H') : Rd1 K CR H' rd a t p :=
  R.go (hide_same.trans s) (let ⟨dx, e⟩ := R.ob; ⟨dx, s _ _ e⟩) R.le
inductive spInit (CR : Addr) (vs : List V) (H : Hp) (Q : VK) (E_ : XK) : Prop
  | mk (x dx a : Addr) (c_1 : vs = [.ref x, .ref a]) (c_2 : H x = some (.ins CR dx [])) (c_3 : ∀ H' : Hp, (∃ dx, H' x = some (.ins CR dx (rf a 0))) → Same (hide H x) H' → Q .non H')
inductive spEnded (K : PySem.W.Frag) (CR : Addr) (vs : List V) (H : Hp) (Q : VK) (E_ : XK) : Prop
  | mk (rd a : Addr) (t : List Nat) (p : Nat) (c_1 : vs = [.ref rd]) (c_2 : Rd1 K CR H rd a t p) (c_3 : Q (.bl (decide (p = t.length))) H)
inductive spTakes (K : PySem.W.Frag) (CR : Addr) (vs : List V) (H : Hp) (Q : VK) (E_ : XK) : Prop
  | mk (rd a wa : Addr) (t wl : List Nat) (p : Nat) (c_1 : vs = [.ref rd, .ref wa]) (c_2 : Rd1 K CR H rd a t p) (c_3 : (∀ H', SqT K H' wa (nI wl))) (c_4 : wl.length ≤ 100) (c_5 : (∀ r, takeP wl (t.drop p) = some r → ∀ (q : Nat) (H' : Hp), Rd1 K CR H' rd a t q → t.drop q = r → Same (hide H rd) H' → Q (.bl true) H')) (c_6 : (takeP wl (t.drop p) = none → ∀ H' : Hp, Same H H' → Q (.bl false) H'))
inductive spByteR (K : PySem.W.Frag) (CR CX : Addr) (vs : List V) (H : Hp) (Q : VK) (E : XK) : Prop
  | mk (rd a : Addr) (t : List Nat) (p lo hi : Nat) (c_1 : vs = [.ref rd, .int (lo : Nat), .int (hi : Nat)]) (c_2 : Rd1 K CR H rd a t p) (c_3 : (∀ b r, byteR lo hi (t.drop p) = some (b, r) → ∀ (q : Nat) (H' : Hp), Rd1 K CR H' rd a t q → t.drop q = r → Same (hide H rd) H' → Q (.int (b : Nat)) H')) (c_4 : (byteR lo hi (t.drop p) = none → ∀ H' : Hp, E (.ref CX) none H'))
theorem Rd1.at {K : PySem.W.Frag} {CR : Addr} {H : Hp} {rd a : Addr} {t : List Nat} {p : Nat} (R : Rd1 K CR H rd a t p) {b : Nat} {r : List Nat} (h : t.drop p = b :: r) : (nI t)[p]? = some (V.int ((b : Nat) : Int)) ∧ t.drop (p + 1) = r ∧ p + 1 ≤ t.length := by
  have hlt : p < t.length := by
    have := congrArg List.length h
    rw [List.length_drop] at this
    simp at this
    omega
  rw [List.drop_eq_getElem_cons hlt] at h
  obtain ⟨h1, h2⟩ := List.cons.inj h
  exact ⟨nI_at (by rw [List.getElem?_eq_getElem hlt, h1]), h2, hlt⟩
inductive spReadL (rd : List Nat → Option (List Nat)) (K : PySem.W.Frag) (CX : Addr) (vs : List V) (H : Hp) (Q : VK) (E : XK) : Prop
  | mk (a : Addr) (t : List Nat) (c_1 : vs = [.ref a]) (c_2 : SqL K H a (nI t)) (c_3 : t.length ≤ 1000000) (c_4 : (∀ out, rd t = some out → ∀ (H' : Hp) (l : Addr), Same H H' → H' l = some (.lst (nI out)) → out.length ≤ 2000000 → Q (.ref l) H')) (c_5 : (rd t = none → ∀ H' : Hp, E (.ref CX) none H'))
inductive spBack (rd : List Nat → Option (List Nat)) (fa : Addr) (m : Nat) (K : PySem.W.Frag) (vs : List V) (H : Hp) (Q : VK) (E_ : XK) : Prop
  | mk (a : Addr) (ns : List Int) (c_1 : vs = [.ref a, .ref fa, .int (m : Nat)]) (c_2 : SqL K H a (ns.map V.int)) (c_3 : (∀ n ∈ ns, 0 ≤ n)) (c_4 : ns.length ≤ 1000000) (c_5 : (textB (m : Nat) ns = false → ∀ (l : Addr) (H' : Hp), H' l = some (.lst [V.int (-8)]) → Q (.ref l) H')) (c_6 : (textB (m : Nat) ns = true → rd (Sh27Neutral.nats ns) = none → ∀ (l : Addr) (H' : Hp), H' l = some (.lst [V.int (-4)]) → Q (.ref l) H')) (c_7 : (textB (m : Nat) ns = true → ∀ out, rd (Sh27Neutral.nats ns) = some out → ∀ (l : Addr) (H' : Hp), H' l = some (.lst (V.int 0 :: nI out)) → Q (.ref l) H'))
theorem pic_out {α : Type} (x : Option α) (b : Bool) (f : α → Sh27.Ans) (out : List Int) (h : out = (Sh27.asked b (Sh27.some_ x f)).v :: (Sh27.asked b (Sh27.some_ x f)).l) :
    (b = false → out = [-8]) ∧ (b = true → x = none → out = [-4]) ∧ (b = true → ∀ y, x = some y → out = (f y).v :: (f y).l) := by
  refine ⟨fun hb => ?_, fun hb hx => ?_, fun hb y hx => ?_⟩
  · rw [h, hb]; rfl
  · rw [h, hb, hx]; rfl
  · rw [h, hb, hx]; rfl
theorem told0_out (l : List Nat) : ((Sh27.told0 l).v :: (Sh27.told0 l).l).map V.int = V.int 0 :: nI l := by
  unfold Sh27.told0 Sh27.ints nI
  simp only [List.map_cons, List.map_map]
  rfl
end Cm

set_option Elab.async false
set_option linter.all false
set_option maxRecDepth 100000
namespace Kp
open Sh27
end Kp

set_option Elab.async false
set_option linter.all false
set_option maxRecDepth 100000
namespace Pc
open Sh27
end Pc

set_option Elab.async false
set_option maxRecDepth 100000
set_option linter.all false
namespace L2
open PySem PySem.Spec
open PyProof.Rows hiding St
section
variable {X : Cx} {CX : CXT} {k : Nat} {f : Addr} {fd : FuncData} {ps : List Str} {sp : Sp} {E : XK} {σ : St}
end
section
variable {X : Cx}
end
end L2

set_option Elab.async false
set_option maxRecDepth 100000
set_option linter.all false
namespace Cm
open PySem L2 TL
end Cm

set_option Elab.async false
set_option maxRecDepth 100000
namespace S10
open PySem L2 TL Cm
def top (i : Nat) : Stmt := PySem.Challenge.pw_shownback_s10_untable.main.body.getD i (.Pass ⟨0, 0, 0, 0⟩)
abbrev s_exponent : Stmt := top 11
abbrev s_is_below_nought : Stmt := top 12
abbrev s_whole_of : Stmt := top 13
abbrev s_power_of : Stmt := top 14
abbrev s_power_of_ten : Stmt := top 15
abbrev s_power_for : Stmt := top 16
abbrev s_nearest_to_ratio : Stmt := top 17
abbrev s_nearest_to_decimal : Stmt := top 18
abbrev s_all_within : Stmt := top 25
abbrev s_is_text : Stmt := top 26
abbrev s_are_names : Stmt := top 27
abbrev s_bytes_of : Stmt := top 30
abbrev s_places_before_point : Stmt := top 38
abbrev s_picked : Stmt := top 39
abbrev s_shortest : Stmt := top 40
abbrev s_written : Stmt := top 41
abbrev s_tell_decimal : Stmt := top 42
abbrev s_number_of : Stmt := top 43
abbrev s_read_power : Stmt := top 44
abbrev s_read_decimal : Stmt := top 45
abbrev s_at_the_right : Stmt := top 50
abbrev s_tell_row : Stmt := top 51
abbrev s_tell_table : Stmt := top 52
abbrev s_parted : Stmt := top 53
abbrev s_words_of : Stmt := top 54
abbrev s_read_number : Stmt := top 55
abbrev s_read_numbers : Stmt := top 56
abbrev s_read_table : Stmt := top 57
abbrev s_read_back : Stmt := top 59
abbrev s_untable : Stmt := top 60
abbrev s_Reader___init__ : Stmt := inClass (top 31) 0
abbrev s_Reader_ended : Stmt := inClass (top 31) 1
abbrev s_Reader_takes : Stmt := inClass (top 31) 2
abbrev s_Reader_byte : Stmt := inClass (top 31) 4
abbrev s_Reader_digits : Stmt := inClass (top 31) 5
abbrev s_Reader_number : Stmt := inClass (top 31) 6
structure T (K : PySem.W.Frag) (mg : Str → Option Value) (c : Cs) : Prop where
  b_len : mg "len" = none
  b_list : mg "list" = none
  b_max : mg "max" = none
  b_ord : mg "ord" = none
  b_range : mg "range" = none
  b_str : mg "str" = none
  b_tuple : mg "tuple" = none
  i_OUT_OF_RANGE : ∃ t, mg "OUT_OF_RANGE" = some (.int (-8) t)
  i_NO_SUCH_TEXT : ∃ t, mg "NO_SUCH_TEXT" = some (.int (-4) t)
  i_SIGN : ∃ t, mg "SIGN" = some (.int 9223372036854775808 t)
  i_ENDLESS : ∃ t, mg "ENDLESS" = some (.int 9218868437227405312 t)
  i_LEAST_NORMAL_WHOLE : ∃ t, mg "LEAST_NORMAL_WHOLE" = some (.int 4503599627370496 t)
  i_LEAST_POWER : ∃ t, mg "LEAST_POWER" = some (.int (-1074) t)
  i_MOST_BYTES_OF_A_NUMBER : ∃ t, mg "MOST_BYTES_OF_A_NUMBER" = some (.int 64 t)
  i_MOST_BYTES_OF_A_TABLE : ∃ t, mg "MOST_BYTES_OF_A_TABLE" = some (.int 65536 t)
  i_MOST_NAMES : ∃ t, mg "MOST_NAMES" = some (.int 16 t)
  i_MOST_NAME_BYTES : ∃ t, mg "MOST_NAME_BYTES" = some (.int 32 t)
  i_MOST_TABLE_LINES : ∃ t, mg "MOST_TABLE_LINES" = some (.int 256 t)
  i_LINE_FEED : ∃ t, mg "LINE_FEED" = some (.int 10 t)
  i_MOST_DIGITS : ∃ t, mg "MOST_DIGITS" = some (.int 17 t)
  i_TENS_FOR_THE_LEAST : ∃ t, mg "TENS_FOR_THE_LEAST" = some (.int 341 t)
  i_BLANK : ∃ t, mg "BLANK" = some (.int 32 t)
  i_DASH : ∃ t, mg "DASH" = some (.int 45 t)
  u_MINUS : ∃ a, mg "MINUS" = some (.ref a) ∧ ModX K a (nI [45])
  u_POINT : ∃ a, mg "POINT" = some (.ref a) ∧ ModX K a (nI [46])
  u_SMALL_E : ∃ a, mg "SMALL_E" = some (.ref a) ∧ ModX K a (nI [101])
  u_BETWEEN : ∃ a, mg "BETWEEN" = some (.ref a) ∧ ModX K a (nI [32, 32])
  x_NoSuchText : mg "NoSuchText" = some (.ref c.NoSuchText) ∧ XCls K c.NoSuchText
  x_TooGreat : mg "TooGreat" = some (.ref c.TooGreat) ∧ XCls K c.TooGreat
  c_Reader : mg "Reader" = some (.ref c.Reader) ∧ Cls K c.Reader
  n_Reader_text : NoAttr K c.Reader "text"
  n_Reader_at : NoAttr K c.Reader "at"
  m_Reader_ini : Ini K c.Reader "Reader.__init__" s_Reader___init__ ["self", "text"]
  m_Reader_ended : Mt K c.Reader "ended" "Reader.ended" s_Reader_ended ["self"]
  m_Reader_takes : Mt K c.Reader "takes" "Reader.takes" s_Reader_takes ["self", "wanted"]
  m_Reader_byte : Mt K c.Reader "byte" "Reader.byte" s_Reader_byte ["self", "least", "most"]
  m_Reader_digits : Mt K c.Reader "digits" "Reader.digits" s_Reader_digits ["self", "most"]
  m_Reader_number : Mt K c.Reader "number" "Reader.number" s_Reader_number ["self", "most"]
  f_exponent : Fn K mg "exponent" s_exponent ["bits"]
  f_is_below_nought : Fn K mg "is_below_nought" s_is_below_nought ["bits"]
  f_whole_of : Fn K mg "whole_of" s_whole_of ["bits"]
  f_power_of : Fn K mg "power_of" s_power_of ["bits"]
  f_power_of_ten : Fn K mg "power_of_ten" s_power_of_ten ["many"]
  f_power_for : Fn K mg "power_for" s_power_for ["over", "under"]
  f_nearest_to_ratio : Fn K mg "nearest_to_ratio" s_nearest_to_ratio ["over", "under"]
  f_nearest_to_decimal : Fn K mg "nearest_to_decimal" s_nearest_to_decimal ["number", "tens"]
  f_all_within : Fn K mg "all_within" s_all_within ["numbers", "least", "most"]
  f_is_text : Fn K mg "is_text" s_is_text ["given", "most"]
  f_are_names : Fn K mg "are_names" s_are_names ["names"]
  f_bytes_of : Fn K mg "bytes_of" s_bytes_of ["words"]
  f_places_before_point : Fn K mg "places_before_point" s_places_before_point ["whole", "power"]
  f_picked : Fn K mg "picked" s_picked ["number", "step", "below", "above", "ends_too"]
  f_shortest : Fn K mg "shortest" s_shortest ["whole", "power"]
  f_written : Fn K mg "written" s_written ["digits", "places"]
  f_tell_decimal : Fn K mg "tell_decimal" s_tell_decimal ["bits"]
  f_number_of : Fn K mg "number_of" s_number_of ["digits"]
  f_read_power : Fn K mg "read_power" s_read_power ["reader"]
  f_read_decimal : Fn K mg "read_decimal" s_read_decimal ["text"]
  f_at_the_right : Fn K mg "at_the_right" s_at_the_right ["words"]
  f_tell_row : Fn K mg "tell_row" s_tell_row ["columns", "row"]
  f_tell_table : Fn K mg "tell_table" s_tell_table ["names", "lines"]
  f_parted : Fn K mg "parted" s_parted ["text", "mark"]
  f_words_of : Fn K mg "words_of" s_words_of ["row"]
  f_read_number : Fn K mg "read_number" s_read_number ["word"]
  f_read_numbers : Fn K mg "read_numbers" s_read_numbers ["words", "columns"]
  f_read_table : Fn K mg "read_table" s_read_table ["text"]
  f_read_back : Fn K mg "read_back" s_read_back ["given", "read", "most"]
  f_untable : Fn K mg "untable" s_untable ["given"]
theorem sc_exponent : FnScope ["bits"] ["bits"] (defScope s_exponent) := ⟨rfl, rfl, rfl, by decide +kernel, rfl, by decide +kernel, by decide +kernel⟩
theorem sc_is_below_nought : FnScope ["bits"] ["bits"] (defScope s_is_below_nought) := ⟨rfl, rfl, rfl, by decide +kernel, rfl, by decide +kernel, by decide +kernel⟩
theorem sc_whole_of : FnScope ["bits", "fraction"] ["bits"] (defScope s_whole_of) := ⟨rfl, rfl, rfl, by decide +kernel, rfl, by decide +kernel, by decide +kernel⟩
theorem sc_power_of : FnScope ["bits"] ["bits"] (defScope s_power_of) := ⟨rfl, rfl, rfl, by decide +kernel, rfl, by decide +kernel, by decide +kernel⟩
theorem sc_power_of_ten : FnScope ["many", "product", "square"] ["many"] (defScope s_power_of_ten) := ⟨rfl, rfl, rfl, by decide +kernel, rfl, by decide +kernel, by decide +kernel⟩
theorem sc_power_for : FnScope ["over", "under", "power"] ["over", "under"] (defScope s_power_for) := ⟨rfl, rfl, rfl, by decide +kernel, rfl, by decide +kernel, by decide +kernel⟩
theorem sc_nearest_to_ratio : FnScope ["over", "under", "power", "whole", "rest", "bits"] ["over", "under"] (defScope s_nearest_to_ratio) := ⟨rfl, rfl, rfl, by decide +kernel, rfl, by decide +kernel, by decide +kernel⟩
theorem sc_nearest_to_decimal : FnScope ["number", "tens", "places"] ["number", "tens"] (defScope s_nearest_to_decimal) := ⟨rfl, rfl, rfl, by decide +kernel, rfl, by decide +kernel, by decide +kernel⟩
theorem sc_all_within : FnScope ["numbers", "least", "most", "number"] ["numbers", "least", "most"] (defScope s_all_within) := ⟨rfl, rfl, rfl, by decide +kernel, rfl, by decide +kernel, by decide +kernel⟩
theorem sc_is_text : FnScope ["given", "most"] ["given", "most"] (defScope s_is_text) := ⟨rfl, rfl, rfl, by decide +kernel, rfl, by decide +kernel, by decide +kernel⟩
theorem sc_are_names : FnScope ["names", "name"] ["names"] (defScope s_are_names) := ⟨rfl, rfl, rfl, by decide +kernel, rfl, by decide +kernel, by decide +kernel⟩
theorem sc_bytes_of : FnScope ["words", "sign"] ["words"] (defScope s_bytes_of) := ⟨rfl, rfl, rfl, by decide +kernel, rfl, by decide +kernel, by decide +kernel⟩
theorem sc_places_before_point : FnScope ["whole", "power"] ["whole", "power"] (defScope s_places_before_point) := ⟨rfl, rfl, rfl, by decide +kernel, rfl, by decide +kernel, by decide +kernel⟩
theorem sc_picked : FnScope ["number", "step", "below", "above", "ends_too", "steps", "under", "over", "lower_will_do", "upper_will_do"] ["number", "step", "below", "above", "ends_too"] (defScope s_picked) := ⟨rfl, rfl, rfl, by decide +kernel, rfl, by decide +kernel, by decide +kernel⟩
theorem sc_shortest : FnScope ["whole", "power", "tens", "unit", "one", "below", "left_out", "found", "digits"] ["whole", "power"] (defScope s_shortest) := ⟨rfl, rfl, rfl, by decide +kernel, rfl, by decide +kernel, by decide +kernel⟩
theorem sc_written : FnScope ["digits", "places", "power", "first", "others"] ["digits", "places"] (defScope s_written) := ⟨rfl, rfl, rfl, by decide +kernel, rfl, by decide +kernel, by decide +kernel⟩
theorem sc_tell_decimal : FnScope ["bits", "whole", "told", "sign"] ["bits"] (defScope s_tell_decimal) := ⟨rfl, rfl, rfl, by decide +kernel, rfl, by decide +kernel, by decide +kernel⟩
theorem sc_number_of : FnScope ["digits", "number", "digit"] ["digits"] (defScope s_number_of) := ⟨rfl, rfl, rfl, by decide +kernel, rfl, by decide +kernel, by decide +kernel⟩
theorem sc_read_power : FnScope ["reader", "is_below", "power"] ["reader"] (defScope s_read_power) := ⟨rfl, rfl, rfl, by decide +kernel, rfl, by decide +kernel, by decide +kernel⟩
theorem sc_read_decimal : FnScope ["text", "reader", "is_below", "digits", "tens", "behind", "bits"] ["text"] (defScope s_read_decimal) := ⟨rfl, rfl, rfl, by decide +kernel, rfl, by decide +kernel, by decide +kernel⟩
theorem sc_at_the_right : FnScope ["words", "room", "word"] ["words"] (defScope s_at_the_right) := ⟨rfl, rfl, rfl, by decide +kernel, rfl, by decide +kernel, by decide +kernel⟩
theorem sc_tell_row : FnScope ["columns", "row", "told", "column"] ["columns", "row"] (defScope s_tell_row) := ⟨rfl, rfl, rfl, by decide +kernel, rfl, by decide +kernel, by decide +kernel⟩
theorem sc_tell_table : FnScope ["names", "lines", "columns", "k", "head", "text", "row", "line"] ["names", "lines"] (defScope s_tell_table) := ⟨rfl, rfl, rfl, by decide +kernel, rfl, by decide +kernel, by decide +kernel⟩
theorem sc_parted : FnScope ["text", "mark", "parts", "part", "byte"] ["text", "mark"] (defScope s_parted) := ⟨rfl, rfl, rfl, by decide +kernel, rfl, by decide +kernel, by decide +kernel⟩
theorem sc_words_of : FnScope ["row", "word"] ["row"] (defScope s_words_of) := ⟨rfl, rfl, rfl, by decide +kernel, rfl, by decide +kernel, by decide +kernel⟩
theorem sc_read_number : FnScope ["word", "bits"] ["word"] (defScope s_read_number) := ⟨rfl, rfl, rfl, by decide +kernel, rfl, by decide +kernel, by decide +kernel⟩
theorem sc_read_numbers : FnScope ["words", "columns", "word"] ["words", "columns"] (defScope s_read_numbers) := ⟨rfl, rfl, rfl, by decide +kernel, rfl, by decide +kernel, by decide +kernel⟩
theorem sc_read_table : FnScope ["text", "rows", "names", "lines", "told", "name", "line", "row"] ["text"] (defScope s_read_table) := ⟨rfl, rfl, rfl, by decide +kernel, rfl, by decide +kernel, by decide +kernel⟩
theorem sc_read_back : FnScope ["given", "read", "most", "told"] ["given", "read", "most"] (defScope s_read_back) := ⟨rfl, rfl, rfl, by decide +kernel, rfl, by decide +kernel, by decide +kernel⟩
theorem sc_untable : FnScope ["given"] ["given"] (defScope s_untable) := ⟨rfl, rfl, rfl, by decide +kernel, rfl, by decide +kernel, by decide +kernel⟩
theorem sc_Reader___init__ : FnScope ["self", "text"] ["self", "text"] (defScope s_Reader___init__) := ⟨rfl, rfl, rfl, by decide +kernel, rfl, by decide +kernel, by decide +kernel⟩
theorem sc_Reader_ended : FnScope ["self"] ["self"] (defScope s_Reader_ended) := ⟨rfl, rfl, rfl, by decide +kernel, rfl, by decide +kernel, by decide +kernel⟩
theorem sc_Reader_takes : FnScope ["self", "wanted", "behind"] ["self", "wanted"] (defScope s_Reader_takes) := ⟨rfl, rfl, rfl, by decide +kernel, rfl, by decide +kernel, by decide +kernel⟩
theorem sc_Reader_byte : FnScope ["self", "least", "most"] ["self", "least", "most"] (defScope s_Reader_byte) := ⟨rfl, rfl, rfl, by decide +kernel, rfl, by decide +kernel, by decide +kernel⟩
theorem sc_Reader_digits : FnScope ["self", "most", "found"] ["self", "most"] (defScope s_Reader_digits) := ⟨rfl, rfl, rfl, by decide +kernel, rfl, by decide +kernel, by decide +kernel⟩
end S10

set_option Elab.async false
set_option maxRecDepth 100000
set_option linter.all false
namespace L2
open PySem PySem.Spec PyProof.Rows
def Bd (k : Nat) (i : Int) : Prop := i.natAbs < 2 ^ k
theorem Bd.mono {j k : Nat} {i : Int} (h : Bd j i) (hk : j ≤ k) : Bd k i := Nat.lt_of_lt_of_le h (Nat.pow_le_pow_right (by decide) hk)
theorem Bd.bits {k : Nat} {i : Int} (h : Bd k i) : Builtin.Int.intBits i ≤ k := PyProof.Rows.intBits_le h
theorem Bd.log {k : Nat} {i : Int} (h : Bd k i) (hk : 0 < k) : i.natAbs.log2 < k := by
  by_cases h0 : i.natAbs = 0
  · rw [h0]
    exact hk
  · exact (Nat.log2_lt h0).mpr h
theorem Bd.nat {k n : Nat} (h : n < 2 ^ k) : Bd k ((n : Nat) : Int) := by
  unfold Bd
  rw [Int.natAbs_natCast]
  exact h
def CMulB (i j : Int) : Prop := Bd 9000 i ∧ Bd 9000 j
def CShlB (i j : Int) : Prop := 0 ≤ j ∧ j ≤ 10000 ∧ Bd 9000 i
def CDivB (i j : Int) : Prop := 0 < j ∧ Bd 9000 j
section
variable {X : Cx}
theorem CMulB.ok {i j : Int} (h : CMulB i j) : IntMulOk i j := .of_bits (Nat.le_trans h.1.bits (by decide)) (Nat.le_trans h.2.bits (by decide))
theorem op_mulB : OpR X (binaryOp .Mult) (rI CMulB fun i j => .int (i * j)) := opI fun _ _ _ _ _ _ _ hc q => mul_int q (CMulB.ok hc)
theorem iop_mulB : OpR X (inplaceOp .Mult) (rI CMulB fun i j => .int (i * j)) := opI fun _ _ _ _ _ _ _ hc q => imul_int q (CMulB.ok hc)
theorem op_shlB : OpR X (binaryOp .LShift) (rI CShlB fun i j => .int (i * 2 ^ j.toNat)) := opI fun i j _ _ _ _ _ hc q => by
  have h1 : 0 ≤ j := hc.1
  have h2 : j ≤ 10000 := hc.2.1
  have h3 : Builtin.Int.intBits i ≤ 9000 := hc.2.2.bits
  exact lshift_int h1 (by have e : (2 : Int) ^ 27 = 134217728 := by decide
                          rw [e]; omega) q
theorem op_fdivB : OpR X (binaryOp .FloorDiv) (rI CDivB fun i j => .int (i / j)) := opI fun i j _ _ _ _ _ hc q => by
  have h1 : (0 : Int) < j := hc.1
  exact floordiv_int (by omega) (by rw [Int.fdiv_eq_ediv_of_nonneg i (by omega)]; exact q) (.inl (PyProof.noPylong_of_log2 (hc.2.log (by decide))))
theorem mt_bits : MtR X "int.bit_length" (fun x xs H Q => ∃ i, x = .int i ∧ xs = [] ∧ Q (.int (Builtin.Int.intBits i : Nat)) H) := by
  intro pins s σ H x xs v us Q I rx rs h
  refine bg fun G' g' => ?_
  obtain ⟨i, rfl, rfl, h⟩ := h
  refine g' ?_
  clear g' G'
  obtain ⟨t, rfl⟩ := rx
  cases rs
  exact call_int_bit_length ⟨.int _, H, I.tok _, ⟨_, rfl⟩, h⟩
theorem mt_rstripC : MtR X "str.rstrip" (fun x xs H Q => ∃ a b, x = .str a ∧ xs = [.str b] ∧ a.length ≤ sizeLine ∧ Q (.str (Txt.rstripChars a b)) H) := by
  intro pins s σ H x xs v us Q I rx rs h
  refine bg fun G' g' => ?_
  obtain ⟨a, b, rfl, rfl, hz, h⟩ := h
  refine g' ?_
  clear g' G'
  obtain ⟨t, rfl⟩ := rx
  cases rs with
  | cons r1 rs =>
    cases rs
    obtain ⟨u, rfl⟩ := r1
    exact PySem.SC.rstripChars (fun t' k => ⟨.str _, H, I.tok k, ⟨t', rfl⟩, h⟩) hz
def tFmt (te : TE) : TE := fun σ H Q => te σ H fun x H1 => (∃ a, x = .str a ∧ a.length ≤ sizeLine ∧ Q (.str a) H1) ∨ ∃ i : Int, x = .int i ∧ i.natAbs.log2 < 1920 ∧ Q (.str (Str.ofString (toString i))) H1
theorem pe_fmt {e : Expr} {te : TE} {pos : Pos} (he : PE X e te) : PE X (.FormattedValue e (-1) none pos) (tFmt te) := by
  intro pins s σ H Q I h
  refine wpAny_FormattedValue_plain (thn (he pins s σ H _ I h) fun v s1 ⟨x, H1, I1, r1, q1⟩ => ?_)
  rcases q1 with ⟨a, rfl, hz, q⟩ | ⟨i, rfl, hz, q⟩
  · obtain ⟨t, rfl⟩ := r1
    exact wpAny_formatField_str ⟨.str a, H1, I1, ⟨_, rfl⟩, q⟩ ⟨.str a, H1, I1.tok _, ⟨_, rfl⟩, q⟩ hz
  · obtain ⟨t, rfl⟩ := r1
    exact wpAny_formatField_int hz ⟨.str _, H1, I1.tok _, ⟨_, rfl⟩, q⟩
abbrev TJ := Str → St → Hp → (Str → Hp → Prop) → Prop
def PJ (X : Cx) (es : List Expr) (t : TJ) : Prop := ∀ (pins : List (Addr × Obj)) (s : Shared) (σ : St) (H : Hp) (acc : Str) (Q : Str → Hp → Prop) (F : Str → Shared → Prop), Inv X pins σ H s → (∀ out H1 s1, Inv X pins σ H1 s1 → Q out H1 → F out s1) → t acc σ H Q →
  Joins (model X.prog X.w) X.A X.xe (evalEach es X.env) acc F s
def tjNil : TJ := fun acc _ H Q => Q acc H
def tjCons (te : TE) (t : TJ) : TJ := fun acc σ H Q => te σ H fun x H1 => ∃ y, x = .str y ∧ acc.length + y.length ≤ sizeLine ∧ t (acc ++ y) σ H1 Q
theorem pj_nil : PJ X [] tjNil := by
  intro pins s σ H acc Q F I hF h
  exact Joins_nil (hF acc H s I h)
theorem pj_cons {e : Expr} {es : List Expr} {te : TE} {t : TJ} (he : PE X e te) (hs : PJ X es t) : PJ X (e :: es) (tjCons te t) := by
  intro pins s σ H acc Q F I hF h
  refine Joins_cons (thn (he pins s σ H _ I h) fun v s1 ⟨x, H1, I1, r1, y, hx, hz, q1⟩ => ?_)
  subst hx
  obtain ⟨t', rfl⟩ := r1
  exact ⟨y, t', rfl, by rw [Str.length_append]; exact hz, hs pins s1 σ H1 _ Q F I1 hF q1⟩
def tJoined (t : TJ) : TE := fun σ H Q => t Str.empty σ H fun out H1 => out.length ≤ sizeLine ∧ Q (.str out) H1
theorem pe_joined {v1 v2 : Expr} {es : List Expr} {t : TJ} {pos : Pos} (h : PJ X (v1 :: v2 :: es) t) : PE X (.JoinedStr (v1 :: v2 :: es) pos) (tJoined t) := by
  intro pins s σ H Q I q
  refine wpAny_JoinedStr ?_
  exact h pins s σ H Str.empty _ _ I (fun out H1 s1 I1 ⟨hz, q1⟩ => ⟨hz, .str out, H1, I1.tok _, ⟨_, rfl⟩, q1⟩) q
end
end L2

set_option Elab.async false
set_option maxRecDepth 100000
set_option linter.all false
namespace Cm
open PySem L2 TL
inductive spTen (vs : List V) (H : Hp) (Q : VK) (E_ : XK) : Prop
  | mk (m : Int) (c_1 : vs = [.int m]) (c_2 : m ≤ 700) (c_3 : Q (.int ((10 ^ m.toNat : Nat) : Int)) H)
theorem max0 (z : Int) : (if (0 : Int) > z then 0 else z) = ((z.toNat : Nat) : Int) := by
  split <;> omega
theorem ten_lt {n k : Nat} (h : n ≤ k) : 10 ^ n < 2 ^ (4 * k + 1) := by
  have h1 : 10 ^ n ≤ 10 ^ k := Nat.pow_le_pow_right (by decide) h
  have h2 : 10 ^ k ≤ 16 ^ k := Nat.pow_le_pow_left (by decide) k
  have h3 : 16 ^ k = 2 ^ (4 * k) := by rw [Nat.pow_mul]
  have h4 : 2 ^ (4 * k) < 2 ^ (4 * k + 1) := Nat.pow_lt_pow_right (by decide) (by omega)
  (clear h; omega)
theorem mul_lt2 {a b i j : Nat} (h1 : a < 2 ^ i) (h2 : b < 2 ^ j) : a * b < 2 ^ (i + j) := by
  rw [Nat.pow_add]
  exact Nat.mul_lt_mul'' h1 h2
theorem shl_lt {a i n : Nat} (h1 : a < 2 ^ i) (z : Nat) (hz : z ≤ n) : a * 2 ^ z < 2 ^ (i + n) := by
  have h2 : a * 2 ^ z < 2 ^ i * 2 ^ z := Nat.mul_lt_mul_of_pos_right h1 (Nat.two_pow_pos z)
  rw [← Nat.pow_add] at h2
  exact Nat.lt_of_lt_of_le h2 (Nat.pow_le_pow_right (by decide) (by (clear h2 h1; omega)))
theorem castmul2 (a : Nat) (z : Nat) : ((a : Nat) : Int) * 2 ^ z = ((a * 2 ^ z : Nat) : Int) := by
  rw [Int.natCast_mul, Int.natCast_pow]
  rfl
end Cm

set_option Elab.async false
namespace DM
open Sh27
theorem nearest_le (n d : Nat) (hd : 0 < d) : 2 * n ≤ (2 * nearest n d + 1) * d := by
  have h := Nat.div_add_mod n d
  have hr := Nat.mod_lt n hd
  unfold nearest
  try dsimp only
  generalize n / d = q at h ⊢
  generalize n % d = r at h hr ⊢
  have e : (2 * q + 1) * d = 2 * (d * q) + d := by rw [Nat.add_mul, Nat.mul_assoc, Nat.mul_comm q d]; lia
  have e2 : (2 * (q + 1) + 1) * d = 2 * (d * q) + 3 * d := by rw [Nat.mul_add, Nat.add_mul, Nat.add_mul, Nat.mul_assoc, Nat.mul_comm q d]; lia
  split
  · lia
  · split
    · lia
    · rcases Nat.mod_two_eq_zero_or_one q with z | z <;> rw [z]
      · simp only [Nat.add_zero]; lia
      · lia
theorem nearest_ge (n d : Nat) (hd : 0 < d) : 2 * nearest n d * d ≤ 2 * n + d := by
  have h := Nat.div_add_mod n d
  have hr := Nat.mod_lt n hd
  unfold nearest
  try dsimp only
  generalize n / d = q at h ⊢
  generalize n % d = r at h hr ⊢
  have e : 2 * q * d = 2 * (d * q) := by rw [Nat.mul_assoc, Nat.mul_comm q d]
  have e2 : 2 * (q + 1) * d = 2 * (d * q) + 2 * d := by rw [Nat.mul_add, Nat.add_mul, Nat.mul_assoc, Nat.mul_comm q d]
  split
  · lia
  · split
    · lia
    · rcases Nat.mod_two_eq_zero_or_one q with z | z <;> rw [z]
      · simp only [Nat.add_zero]; lia
      · lia
theorem nearest_even_hi (n d : Nat) (hd : 0 < d) (ht : 2 * n = (2 * nearest n d + 1) * d) : nearest n d % 2 = 0 := by
  have h := Nat.div_add_mod n d
  have hr := Nat.mod_lt n hd
  revert ht
  unfold nearest
  try dsimp only
  generalize n / d = q at h ⊢
  generalize n % d = r at h hr ⊢
  have e : (2 * q + 1) * d = 2 * (d * q) + d := by rw [Nat.add_mul, Nat.mul_assoc, Nat.mul_comm q d]; omega
  have e2 : (2 * (q + 1) + 1) * d = 2 * (d * q) + 3 * d := by rw [Nat.mul_add, Nat.add_mul, Nat.add_mul, Nat.mul_assoc, Nat.mul_comm q d]; omega
  split
  · intro ht; lia
  · split
    · intro ht; lia
    · rcases Nat.mod_two_eq_zero_or_one q with z | z <;> rw [z] <;> intro _ <;> omega
theorem nearest_even_lo (n d : Nat) (hd : 0 < d) (ht : 2 * nearest n d * d = 2 * n + d) : nearest n d % 2 = 0 := by
  have h := Nat.div_add_mod n d
  have hr := Nat.mod_lt n hd
  revert ht
  unfold nearest
  try dsimp only
  generalize n / d = q at h ⊢
  generalize n % d = r at h hr ⊢
  have e : 2 * q * d = 2 * (d * q) := by rw [Nat.mul_assoc, Nat.mul_comm q d]
  have e2 : 2 * (q + 1) * d = 2 * (d * q) + 2 * d := by rw [Nat.mul_add, Nat.add_mul, Nat.mul_assoc, Nat.mul_comm q d]
  split
  · intro ht; lia
  · split
    · intro ht; lia
    · rcases Nat.mod_two_eq_zero_or_one q with z | z <;> rw [z] <;> intro _ <;> omega
theorem pow_two_succ (e : Nat) : 2 ^ (e + 1) = 2 * 2 ^ e := by rw [Nat.pow_succ, Nat.mul_comm]
theorem units_small {b : Nat} (h : b ≤ 2 ^ 53) : units b = b := by
  unfold units
  split
  · rfl
  · rename_i h1
    rcases Nat.lt_or_ge b (2 ^ 53) with h2 | h2
    · have e1 : b / 2 ^ 52 = 1 := by lia
      rw [e1]
      lia
    · have e1 : b = 2 ^ 53 := by lia
      subst e1
      decide
theorem units_big {e m : Nat} (h1 : 2 ^ 52 ≤ m) (h2 : m ≤ 2 ^ 53) : units (e * 2 ^ 52 + m) = m * 2 ^ e := by
  rcases Nat.lt_or_ge m (2 ^ 53) with h3 | h3
  · unfold units
    rw [if_neg (by lia)]
    have e1 : (e * 2 ^ 52 + m) / 2 ^ 52 = e + 1 := by lia
    have e2 : 2 ^ 52 + (e * 2 ^ 52 + m) % 2 ^ 52 = m := by lia
    rw [e1, e2]
    rfl
  · have e0 : m = 2 ^ 53 := by lia
    subst e0
    unfold units
    rw [if_neg (by lia)]
    have e1 : (e * 2 ^ 52 + 2 ^ 53) / 2 ^ 52 = e + 2 := by lia
    have e2 : 2 ^ 52 + (e * 2 ^ 52 + 2 ^ 53) % 2 ^ 52 = 2 ^ 52 := by lia
    rw [e1, e2, show e + 2 - 1 = e + 1 from rfl, pow_two_succ e, ← Nat.mul_assoc]
theorem bits_cases (b : Nat) : b ≤ 2 ^ 53 ∨ ∃ e m, b = e * 2 ^ 52 + m ∧ 2 ^ 52 ≤ m ∧ m < 2 ^ 53 ∧ 1 ≤ e := by
  rcases Nat.lt_or_ge b (2 ^ 53) with h | h
  · exact .inl (Nat.le_of_lt h)
  · exact .inr ⟨b / 2 ^ 52 - 1, 2 ^ 52 + b % 2 ^ 52, by lia, by lia, by lia, by lia⟩
theorem units_lt (b : Nat) : units b < units (b + 1) := by
  rcases Nat.lt_or_ge b (2 ^ 53) with h | h
  · rw [units_small (by lia), units_small (by lia)]
    lia
  · refine bg fun G' g' => ?_
    obtain ⟨e, m, he, h1, h2, _⟩ : ∃ e m, b = e * 2 ^ 52 + m ∧ 2 ^ 52 ≤ m ∧ m < 2 ^ 53 ∧ 1 ≤ e := ⟨b / 2 ^ 52 - 1, 2 ^ 52 + b % 2 ^ 52, by omega, by omega, by omega, by omega⟩
    refine g' ?_
    clear g' G'
    rw [he, Nat.add_assoc, units_big h1 (by (clear he h; lia)), units_big (by (clear he h; lia)) (by (clear he h; lia))]
    exact Nat.mul_lt_mul_of_pos_right (by lia) (Nat.two_pow_pos e)
theorem units_mono {a b : Nat} (h : a ≤ b) : units a ≤ units b := by
  induction b with
  | zero => rw [Nat.le_zero.mp h]; exact Nat.le_refl _
  | succ b ih =>
    rcases Nat.lt_or_ge b a with h1 | h1
    · rw [show a = b + 1 by lia]; exact Nat.le_refl _
    · exact Nat.le_trans (ih h1) (Nat.le_of_lt (units_lt b))
theorem units_smono {a b : Nat} (h : a < b) : units a < units b := Nat.lt_of_lt_of_le (units_lt a) (units_mono h)
structure Mid (n d b : Nat) : Prop where
  lo : b = 0 ∨ (units (b - 1) + units b) * d ≤ 2 * n
  lo_odd : b % 2 = 1 → (units (b - 1) + units b) * d < 2 * n
  hi : 2 * n ≤ (units b + units (b + 1)) * d
  hi_odd : b % 2 = 1 → 2 * n < (units b + units (b + 1)) * d
theorem Mid.uniq {n d b c : Nat} (hd : 0 < d) (x : Mid n d b) (y : Mid n d c) : b = c := by
  have key : ∀ {b c : Nat}, Mid n d b → Mid n d c → ¬ b < c := fun {b c} x y h => by
    have h1 : units b + units (b + 1) ≤ units (c - 1) + units c := Nat.add_le_add (units_mono (by omega)) (units_mono (by lia))
    have h2 : (units b + units (b + 1)) * d ≤ (units (c - 1) + units c) * d := Nat.mul_le_mul_right _ h1
    have h3 := x.hi
    have h4 : (units (c - 1) + units c) * d ≤ 2 * n := by
      rcases y.lo with z | z
      · lia
      · exact z
    rcases Nat.lt_or_ge (b + 1) c with h5 | h5
    · have h6 : units b + units (b + 1) < units (c - 1) + units c := Nat.add_lt_add_of_lt_of_le (units_smono (by omega)) (units_mono (by lia))
      have h7 : (units b + units (b + 1)) * d < (units (c - 1) + units c) * d := Nat.mul_lt_mul_of_pos_right h6 hd
      (clear h6 h5 h2 h1 h hd; lia)
    · have e : c = b + 1 := by lia
      rcases Nat.mod_two_eq_zero_or_one b with z | z
      · have := y.lo_odd (by lia)
        lia
      · have := x.hi_odd z
        lia
  have a1 := key x y
  have a2 := key y x
  lia
theorem bitsOf_mid (n d : Nat) (hd : 0 < d) : Mid n d (bitsOf n d) := by
  have hdm := Nat.div_add_mod n d
  have hr := Nat.mod_lt n hd
  rcases Nat.lt_or_ge (n / d) (2 ^ 53) with hq | hq
  · have eb : bitsOf n d = nearest n d := by
      unfold bitsOf
      try dsimp only
      rw [if_pos hq]
      simp
    rw [eb]
    have a1 := nearest_le n d hd
    have a2 := nearest_ge n d hd
    have a3 := nearest_even_hi n d hd
    have a4 := nearest_even_lo n d hd
    have a5 : nearest n d ≤ 2 ^ 53 := by
      unfold nearest
      try dsimp only
      split
      · lia
      · split
        · lia
        · rcases Nat.mod_two_eq_zero_or_one (n / d) with z | z <;> omega
    generalize nearest n d = m at a1 a2 a3 a4 a5 ⊢
    have e1 : (2 * m + 1) * d = 2 * (m * d) + d := by rw [Nat.add_mul, Nat.mul_assoc]; lia
    have e2 : 2 * m * d = 2 * (m * d) := by rw [Nat.mul_assoc]
    have um : units m = m := units_small a5
    have up : (m + (m + 1)) * d ≤ (units m + units (m + 1)) * d := Nat.mul_le_mul_right _ (by
      have := units_lt m
      lia)
    have up' : (m + (m + 1)) * d = 2 * (m * d) + d := by rw [Nat.add_mul, Nat.add_mul]; lia
    have lo' : 1 ≤ m → (units (m - 1) + units m) * d + d = 2 * (m * d) := fun h => by
      rw [um, units_small (show m - 1 ≤ 2 ^ 53 by lia)]
      obtain ⟨k, rfl⟩ : ∃ k, m = k + 1 := ⟨m - 1, by lia⟩
      rw [Nat.add_sub_cancel, Nat.add_mul, Nat.add_mul]
      lia
    refine ⟨?_, fun ho => ?_, by (clear lo' um e2 a5 a4 a3 a2 eb hq hr hdm hd; lia), fun ho => ?_⟩
    · rcases Nat.eq_zero_or_pos m with z | z
      · exact .inl z
      · have := lo' z
        exact .inr (by (clear z lo' up um a5 a4 a3 a1 eb hq hr hdm hd; lia))
    · have := lo' (by lia)
      rcases Nat.lt_or_ge ((units (m - 1) + units m) * d) (2 * n) with z | z
      · exact z
      · have := a4 (by (clear ho lo' up um a5 a4 a3 a1 eb hq hr hdm hd; lia))
        lia
    · rcases Nat.lt_or_ge (2 * n) ((units m + units (m + 1)) * d) with z | z
      · exact z
      · have := a3 (by (clear ho lo' um e2 a5 a4 a3 a2 eb hq hr hdm hd; lia))
        omega
  · obtain ⟨e, he⟩ : ∃ e, Nat.log2 (n / d) - 52 = e := ⟨_, rfl⟩
    have hq0 : n / d ≠ 0 := by lia
    have hl : 53 ≤ Nat.log2 (n / d) := (Nat.le_log2 hq0).mpr hq
    have hl1 : 2 ^ (52 + e) ≤ n / d := (Nat.le_log2 hq0).mp (by lia)
    have hl2 : n / d < 2 ^ (53 + e) := (Nat.log2_lt hq0).mp (by lia)
    have he1 : 1 ≤ e := by (clear hl2 hl1 hr hdm hd; lia)
    have hD : 0 < d * 2 ^ e := Nat.mul_pos hd (Nat.two_pow_pos e)
    have eb : bitsOf n d = e * 2 ^ 52 + nearest n (d * 2 ^ e) := by
      unfold bitsOf
      try dsimp only
      rw [if_neg (by lia), he]
    rw [eb]
    have a1 := nearest_le n _ hD
    have a2 := nearest_ge n _ hD
    have a3 := nearest_even_hi n _ hD
    have a4 := nearest_even_lo n _ hD
    have q1 : 2 ^ 52 ≤ n / (d * 2 ^ e) := by
      rw [← Nat.div_div_eq_div_mul, Nat.le_div_iff_mul_le (Nat.two_pow_pos e), ← Nat.pow_add]
      exact hl1
    have q2 : n / (d * 2 ^ e) < 2 ^ 53 := by
      rw [← Nat.div_div_eq_div_mul, Nat.div_lt_iff_lt_mul (Nat.two_pow_pos e), ← Nat.pow_add]
      exact hl2
    have q3 : 2 ^ 52 * (d * 2 ^ e) ≤ n := (Nat.le_div_iff_mul_le hD).mp q1
    have a5 : nearest n (d * 2 ^ e) ≤ 2 ^ 53 := by
      unfold nearest
      try dsimp only
      split
      · lia
      · split
        · lia
        · rcases Nat.mod_two_eq_zero_or_one (n / (d * 2 ^ e)) with z | z <;> omega
    have a6 : 2 ^ 52 ≤ nearest n (d * 2 ^ e) := by
      unfold nearest
      try dsimp only
      split
      · omega
      · split <;> omega
    generalize nearest n (d * 2 ^ e) = m at a1 a2 a3 a4 a5 a6 ⊢
    have um : units (e * 2 ^ 52 + m) = m * 2 ^ e := units_big a6 a5
    have par : (e * 2 ^ 52 + m) % 2 = m % 2 := by (clear um a6 a5 a4 a3 a2 a1 q3 q2 q1 eb hD he1 hl2 hl1 hl hq0 he hq hr hdm hd; lia)
    obtain ⟨D, eD⟩ : ∃ D, d * 2 ^ e = D := ⟨_, rfl⟩
    rw [eD] at a1 a2 a3 a4 q3 hD
    have e1 : (2 * m + 1) * D = 2 * (m * D) + D := by rw [Nat.add_mul, Nat.mul_assoc]; lia
    have e2 : 2 * m * D = 2 * (m * D) := by rw [Nat.mul_assoc]
    have emD : m * 2 ^ e * d = m * D := by rw [Nat.mul_assoc, Nat.mul_comm (2 ^ e) d, eD]
    have up : 2 * (m * D) + D ≤ (units (e * 2 ^ 52 + m) + units (e * 2 ^ 52 + m + 1)) * d := by
      have u1 : (m + 1) * 2 ^ e ≤ units (e * 2 ^ 52 + m + 1) := by
        rcases Nat.lt_or_ge m (2 ^ 53) with z | z
        · rw [Nat.add_assoc, units_big (by lia) (by lia)]
          exact Nat.le_refl _
        · have z2 : m = 2 ^ 53 := by lia
          have z3 : e * 2 ^ 52 + m + 1 = (e + 1) * 2 ^ 52 + (2 ^ 52 + 1) := by lia
          rw [z3, units_big (by lia) (by lia), pow_two_succ e, ← Nat.mul_assoc]
          exact Nat.mul_le_mul_right _ (by lia)
      have u2 : (m * 2 ^ e + (m + 1) * 2 ^ e) * d ≤ (units (e * 2 ^ 52 + m) + units (e * 2 ^ 52 + m + 1)) * d := Nat.mul_le_mul_right _ (by (clear emD e2 e1 eD a1 a2 a3 a4 q3 hD par a6 a5 q2 q1 eb he1 hl2 hl1 hl hq0 he hq hr hdm hd; omega))
      have u3 : (m * 2 ^ e + (m + 1) * 2 ^ e) * d = 2 * (m * D) + D := by
        rw [Nat.add_mul, emD, Nat.add_mul, Nat.one_mul, Nat.add_mul, emD, Nat.mul_comm (2 ^ e) d, eD]
        lia
      (clear u1 e2 e1 a1 a2 a3 a4 q3 hD par um a6 a5 q2 q1 eb he1 hl2 hl1 hl hq0 he hq hr hdm hd; omega)
    -- below: the middle, or what is nearer
    have dn : (units (e * 2 ^ 52 + m - 1) + units (e * 2 ^ 52 + m)) * d + D = 2 * (m * D) ∨ (units (e * 2 ^ 52 + m - 1) + units (e * 2 ^ 52 + m)) * d < 2 * n := by
      rcases Nat.lt_or_ge (2 ^ 52) m with z | z
      · left
        rw [um, show e * 2 ^ 52 + m - 1 = e * 2 ^ 52 + (m - 1) by (clear up emD e2 e1 eD a1 a2 a3 a4 q3 hD par um q2 q1 eb hl2 hl1 hl hq0 he hq hr hdm hd; lia), units_big (by lia) (by lia), Nat.add_mul, emD]
        obtain ⟨k, rfl⟩ : ∃ k, m = k + 1 := ⟨m - 1, by lia⟩
        rw [Nat.add_sub_cancel, Nat.mul_assoc, Nat.mul_comm (2 ^ e) d, eD, Nat.add_mul]
        lia
      · right
        have z2 : m = 2 ^ 52 := by lia
        have z3 : units (e * 2 ^ 52 + m - 1) < units (e * 2 ^ 52 + m) := units_smono (by (clear z2 up emD e2 e1 eD a1 a2 a3 a4 q3 hD par um q2 q1 eb hl2 hl1 hl hq0 he hq hr hdm hd; omega))
        have z4 : (units (e * 2 ^ 52 + m - 1) + units (e * 2 ^ 52 + m)) * d < (m * 2 ^ e + m * 2 ^ e) * d := Nat.mul_lt_mul_of_pos_right (by (clear z2 z up emD e2 e1 eD a1 a2 a3 a4 q3 hD par a6 a5 q2 q1 eb he1 hl2 hl1 hl hq0 he hq hr hdm hd; omega)) hd
        have z5 : (m * 2 ^ e + m * 2 ^ e) * d = 2 * (m * D) := by rw [Nat.add_mul, emD]; lia
        rw [z2] at z4 z5 ⊢
        omega
    refine ⟨.inr (by omega), fun ho => ?_, by omega, fun ho => ?_⟩
    · rcases dn with z | z
      · rcases Nat.lt_or_ge ((units (e * 2 ^ 52 + m - 1) + units (e * 2 ^ 52 + m)) * d) (2 * n) with y | y
        · exact y
        · have := a4 (by omega)
          omega
      · exact z
    · rcases Nat.lt_or_ge (2 * n) ((units (e * 2 ^ 52 + m) + units (e * 2 ^ 52 + m + 1)) * d) with z | z
      · exact z
      · have := a3 (by omega)
        omega
theorem bitsOf_iff {n d b : Nat} (hd : 0 < d) : bitsOf n d = b ↔ Mid n d b :=
  ⟨fun h => h ▸ bitsOf_mid n d hd, fun h => (bitsOf_mid n d hd).uniq hd h⟩
end DM

set_option Elab.async false
set_option linter.all false
namespace DM
open Sh27
theorem scale (a b S : Nat) (p : Int) (hp : -(S : Int) ≤ p) : ∃ k, 0 < k ∧ a * 2 ^ S = a * 2 ^ (-p).toNat * k ∧ b * 2 ^ (p + S).toNat = b * 2 ^ p.toNat * k := by
  rcases Int.le_total 0 p with h | h
  · refine ⟨2 ^ S, Nat.two_pow_pos S, ?_, ?_⟩
    · rw [show (-p).toNat = 0 by lia, Nat.pow_zero, Nat.mul_one]
    · rw [show (p + S).toNat = p.toNat + S by lia, Nat.pow_add, Nat.mul_assoc]
  · refine ⟨2 ^ (S - (-p).toNat), Nat.two_pow_pos _, ?_, ?_⟩
    · rw [Nat.mul_assoc, ← Nat.pow_add, show (-p).toNat + (S - (-p).toNat) = S by lia]
    · rw [show p.toNat = 0 by lia, Nat.pow_zero, Nat.mul_one, show (p + S).toNat = S - (-p).toNat by lia]
theorem nearest_scale (n d k : Nat) (hk : 0 < k) : nearest (n * k) (d * k) = nearest n d := by
  unfold nearest
  try dsimp only
  rw [Nat.mul_div_mul_right _ _ hk, Nat.mul_mod_mul_right]
  have e1 : (2 * (n % d * k) < d * k) = (2 * (n % d) < d) := by
    rw [← Nat.mul_assoc]
    exact propext ⟨fun h => Nat.lt_of_mul_lt_mul_right h, fun h => Nat.mul_lt_mul_of_pos_right h hk⟩
  have e2 : (d * k < 2 * (n % d * k)) = (d < 2 * (n % d)) := by
    rw [← Nat.mul_assoc]
    exact propext ⟨fun h => Nat.lt_of_mul_lt_mul_right h, fun h => Nat.mul_lt_mul_of_pos_right h hk⟩
  simp only [e1, e2]
theorem ratio_bits {over under S : Nat} (hu : 0 < under) {p : Int} (hp : -(S : Int) ≤ p) (g1 : p = -(S : Int) ∨ under * 2 ^ 52 * 2 ^ p.toNat ≤ over * 2 ^ (-p).toNat)
    (g2 : over * 2 ^ (-p).toNat < under * 2 ^ 53 * 2 ^ p.toNat) :
    bitsOf (over * 2 ^ S) under = (p + S).toNat * 2 ^ 52 + nearest (over * 2 ^ (-p).toNat) (under * 2 ^ p.toNat) := by
  refine bg fun G' g' => ?_
  obtain ⟨k, hk, e1, e2⟩ := scale over under S p hp
  refine g' ?_
  clear g' G'
  rw [← nearest_scale _ _ k hk, ← e1, ← e2]
  have e3 : ∀ j, under * 2 ^ j * 2 ^ p.toNat * k = under * (2 ^ j * 2 ^ (p + S).toNat) := fun j => by
    rw [Nat.mul_right_comm under, Nat.mul_right_comm _ (2 ^ j), ← e2, Nat.mul_right_comm, Nat.mul_assoc]
  have g2' : over * 2 ^ S < under * (2 ^ 53 * 2 ^ (p + S).toNat) := by
    rw [e1, ← e3]
    exact Nat.mul_lt_mul_of_pos_right g2 hk
  have g1' : p = -(S : Int) ∨ under * (2 ^ 52 * 2 ^ (p + S).toNat) ≤ over * 2 ^ S := by
    rcases g1 with h | h
    · exact .inl h
    · right
      rw [e1, ← e3]
      exact Nat.mul_le_mul_right k h
  obtain ⟨E, hE⟩ : ∃ E, (p + S).toNat = E := ⟨_, rfl⟩
  rw [hE] at g1' g2' ⊢
  obtain ⟨n, hn⟩ : ∃ n, over * 2 ^ S = n := ⟨_, rfl⟩
  rw [hn] at g1' g2' ⊢
  have q2 : n / under < 2 ^ (53 + E) := by
    rw [Nat.div_lt_iff_lt_mul hu, Nat.mul_comm, Nat.pow_add]
    exact g2'
  unfold bitsOf
  try dsimp only
  by_cases h53 : n / under < 2 ^ 53
  · rw [if_pos h53]
    have hE0 : E = 0 := by
      rcases g1' with h | h
      · lia
      · have q1 : 2 ^ (52 + E) ≤ n / under := by
          rw [Nat.le_div_iff_mul_le hu, Nat.mul_comm, Nat.pow_add]
          exact h
        have : 52 + E < 53 := (Nat.pow_lt_pow_iff_right (by decide : 1 < 2)).mp (Nat.lt_of_le_of_lt q1 h53)
        lia
    subst hE0
    rfl
  · rw [if_neg h53]
    have h53' : 2 ^ 53 ≤ n / under := by lia
    have hE1 : 1 ≤ E := by
      have : 53 < 53 + E := (Nat.pow_lt_pow_iff_right (by decide : 1 < 2)).mp (Nat.lt_of_le_of_lt h53' q2)
      (clear h53' h53 q2 hn g1' g2' hE e2 e1 hk g2 g1 hp hu; lia)
    have q1 : 2 ^ (52 + E) ≤ n / under := by
      rcases g1' with h | h
      · lia
      · rw [Nat.le_div_iff_mul_le hu, Nat.mul_comm, Nat.pow_add]
        exact h
    have hq0 : n / under ≠ 0 := by
      have := Nat.two_pow_pos 53
      lia
    have l1 : 52 + E ≤ Nat.log2 (n / under) := (Nat.le_log2 hq0).mpr q1
    have l2 : Nat.log2 (n / under) < 53 + E := (Nat.log2_lt hq0).mpr q2
    rw [show Nat.log2 (n / under) - 52 = E by (clear hq0 q1 h53' h53 q2 hn g1' g2' hE e2 e1 hk g2 g1 hp hu; lia)]
def bl (n : Nat) : Nat := if n = 0 then 0 else Nat.log2 n + 1
def pow0 (over under : Nat) : Int := (bl over : Int) - (bl under : Int) - 52
def below (over under : Nat) : Bool := decide (over * 2 ^ (-pow0 over under).toNat < under * 2 ^ 52 * 2 ^ (pow0 over under).toNat)
def pow1 (over under : Nat) : Int := if below over under = true then pow0 over under - 1 else pow0 over under
def powF (over under : Nat) : Int := max (pow1 over under) (-1074)
theorem bl_pos {n : Nat} (h : 0 < n) : 2 ^ (bl n - 1) ≤ n ∧ n < 2 ^ bl n ∧ 1 ≤ bl n := by
  unfold bl
  rw [if_neg (by lia)]
  exact ⟨(Nat.le_log2 (by omega)).mp (by lia), (Nat.log2_lt (by omega)).mp (by lia), by lia⟩
theorem step_lt {a b : Nat} {p : Int} : (a * 2 ^ (-(p - 1)).toNat < b * 2 ^ 53 * 2 ^ (p - 1).toNat) ↔ (a * 2 ^ (-p).toNat < b * 2 ^ 52 * 2 ^ p.toNat) := by
  rcases Int.lt_or_le 0 p with h | h
  · rw [show (-(p - 1)).toNat = 0 by lia, show (-p).toNat = 0 by lia, show p.toNat = (p - 1).toNat + 1 by lia, pow_two_succ (p - 1).toNat]
    have : b * 2 ^ 52 * (2 * 2 ^ (p - 1).toNat) = b * 2 ^ 53 * 2 ^ (p - 1).toNat := by
      rw [← Nat.mul_assoc, Nat.mul_assoc b (2 ^ 52) 2]
    rw [this]
  · rw [show (-(p - 1)).toNat = (-p).toNat + 1 by lia, show (p - 1).toNat = 0 by lia, show p.toNat = 0 by lia, pow_two_succ (-p).toNat]
    generalize 2 ^ (-p).toNat = X
    rw [show a * (2 * X) = 2 * (a * X) by rw [Nat.mul_left_comm]]
    lia
theorem pow0_lt {over under : Nat} (ho : 0 < over) (hu : 0 < under) : over * 2 ^ (-pow0 over under).toNat < under * 2 ^ 53 * 2 ^ (pow0 over under).toNat := by
  refine bg fun G' g' => ?_
  obtain ⟨_, o2, o3⟩ := bl_pos ho
  refine g' ?_
  clear g' G'
  refine bg fun G' g' => ?_
  obtain ⟨u1, _, u3⟩ := bl_pos hu
  refine g' ?_
  clear g' G'
  have h1 : over * 2 ^ (-pow0 over under).toNat < 2 ^ (bl over + (-pow0 over under).toNat) := by
    rw [Nat.pow_add]
    exact Nat.mul_lt_mul_of_pos_right o2 (Nat.two_pow_pos _)
  have h2 : 2 ^ (bl under - 1 + 53 + (pow0 over under).toNat) ≤ under * 2 ^ 53 * 2 ^ (pow0 over under).toNat := by
    rw [Nat.pow_add, Nat.pow_add]
    exact Nat.mul_le_mul_right _ (Nat.mul_le_mul_right _ u1)
  have h3 : 2 ^ (bl over + (-pow0 over under).toNat) ≤ 2 ^ (bl under - 1 + 53 + (pow0 over under).toNat) := Nat.pow_le_pow_right (by decide) (by
    unfold pow0
    omega)
  omega
theorem pow0_ge {over under : Nat} (ho : 0 < over) (hu : 0 < under) : under * 2 ^ 51 * 2 ^ (pow0 over under).toNat ≤ over * 2 ^ (-pow0 over under).toNat := by
  refine bg fun G' g' => ?_
  obtain ⟨o1, _, o3⟩ := bl_pos ho
  refine g' ?_
  clear g' G'
  refine bg fun G' g' => ?_
  obtain ⟨_, u2, u3⟩ := bl_pos hu
  refine g' ?_
  clear g' G'
  have h1 : 2 ^ (bl over - 1 + (-pow0 over under).toNat) ≤ over * 2 ^ (-pow0 over under).toNat := by
    rw [Nat.pow_add]
    exact Nat.mul_le_mul_right _ o1
  have h2 : under * 2 ^ 51 * 2 ^ (pow0 over under).toNat ≤ 2 ^ (bl under + 51 + (pow0 over under).toNat) := by
    rw [Nat.pow_add, Nat.pow_add]
    exact Nat.mul_le_mul_right _ (Nat.mul_le_mul_right _ (Nat.le_of_lt u2))
  have h3 : 2 ^ (bl under + 51 + (pow0 over under).toNat) ≤ 2 ^ (bl over - 1 + (-pow0 over under).toNat) := Nat.pow_le_pow_right (by decide) (by
    unfold pow0
    (clear h2 h1 u3 u2 o1 hu ho; lia))
  omega
theorem step_le {a b : Nat} {p : Int} : (b * 2 ^ 52 * 2 ^ (p - 1).toNat ≤ a * 2 ^ (-(p - 1)).toNat) ↔ (b * 2 ^ 51 * 2 ^ p.toNat ≤ a * 2 ^ (-p).toNat) := by
  rcases Int.lt_or_le 0 p with h | h
  · rw [show (-(p - 1)).toNat = 0 by omega, show (-p).toNat = 0 by omega, show p.toNat = (p - 1).toNat + 1 by omega, pow_two_succ (p - 1).toNat]
    have : b * 2 ^ 51 * (2 * 2 ^ (p - 1).toNat) = b * 2 ^ 52 * 2 ^ (p - 1).toNat := by
      rw [← Nat.mul_assoc, Nat.mul_assoc b (2 ^ 51) 2]
    rw [this]
  · rw [show (-(p - 1)).toNat = (-p).toNat + 1 by omega, show (p - 1).toNat = 0 by omega, show p.toNat = 0 by omega, pow_two_succ (-p).toNat]
    generalize 2 ^ (-p).toNat = X
    rw [show a * (2 * X) = 2 * (a * X) by rw [Nat.mul_left_comm]]
    lia
theorem pow1_lt {over under : Nat} (ho : 0 < over) (hu : 0 < under) : over * 2 ^ (-pow1 over under).toNat < under * 2 ^ 53 * 2 ^ (pow1 over under).toNat := by
  unfold pow1
  split
  · rename_i h
    exact step_lt.mpr (of_decide_eq_true h)
  · exact pow0_lt ho hu
theorem pow1_ge {over under : Nat} (ho : 0 < over) (hu : 0 < under) : under * 2 ^ 52 * 2 ^ (pow1 over under).toNat ≤ over * 2 ^ (-pow1 over under).toNat := by
  unfold pow1
  split
  · exact step_le.mpr (pow0_ge ho hu)
  · rename_i h
    unfold below at h
    simp only [decide_eq_true_eq] at h
    omega
theorem up_lt {a b : Nat} {p : Int} (h : a * 2 ^ (-p).toNat < b * 2 ^ 53 * 2 ^ p.toNat) (k : Nat) : a * 2 ^ (-(p + k)).toNat < b * 2 ^ 53 * 2 ^ (p + k).toNat := by
  have h1 : a * 2 ^ (-(p + k)).toNat ≤ a * 2 ^ (-p).toNat := Nat.mul_le_mul_left _ (Nat.pow_le_pow_right (by decide) (by lia))
  have h2 : b * 2 ^ 53 * 2 ^ p.toNat ≤ b * 2 ^ 53 * 2 ^ (p + k).toNat := Nat.mul_le_mul_left _ (Nat.pow_le_pow_right (by decide) (by (clear h1 h; lia)))
  omega
def ratioR (over under : Nat) : Nat := (powF over under + 1074).toNat * 2 ^ 52 + nearest (over * 2 ^ (-powF over under).toNat) (under * 2 ^ (powF over under).toNat)
theorem ratioR_eq {over under : Nat} (ho : 0 < over) (hu : 0 < under) : bitsOf (over * ONE) under = ratioR over under := by
  have h1 := pow1_lt ho hu
  have h2 := pow1_ge ho hu
  have hF : powF over under = pow1 over under ∨ powF over under = -1074 := by unfold powF; omega
  have hG : -1074 ≤ powF over under := by unfold powF; omega
  have hH : pow1 over under ≤ powF over under := by unfold powF; omega
  have g2 : over * 2 ^ (-powF over under).toNat < under * 2 ^ 53 * 2 ^ (powF over under).toNat := by
    have := up_lt h1 (powF over under - pow1 over under).toNat
    rw [show pow1 over under + ((powF over under - pow1 over under).toNat : Int) = powF over under by omega] at this
    exact this
  have := ratio_bits (S := 1074) hu (p := powF over under) (by omega) ?_ g2
  · exact this
  · rcases hF with h | h
    · right
      rw [h]
      exact h2
    · exact .inl h
end DM

set_option Elab.async false
set_option linter.all false
set_option exponentiation.threshold 3000
namespace DM
open Sh27
theorem digLen {c : Nat} (h : 0 < c) : 10 ^ ((natText c).length - 1) ≤ c ∧ c < 10 ^ (natText c).length ∧ 1 ≤ (natText c).length := by
  have e : (natText c).length = (Nat.toDigits 10 c).length := by simp [natText]
  rw [e]
  have p : 0 < (Nat.toDigits 10 c).length := Nat.length_toDigits_pos
  refine ⟨?_, (Nat.length_toDigits_le_iff (by decide) p).mp (Nat.le_refl _), p⟩
  by_cases h1 : (Nat.toDigits 10 c).length = 1
  · rw [h1]; exact h
  · have := (Nat.length_toDigits_le_iff (n := c) (b := 10) (k := (Nat.toDigits 10 c).length - 1) (by decide) (by lia))
    have h2 : ¬ c < 10 ^ ((Nat.toDigits 10 c).length - 1) := fun z => by
      have := this.mpr z
      omega
    lia
theorem bits_small {n d : Nat} (h : 2 * n < d) : bitsOf n d = 0 := by
  have hq : n / d = 0 := Nat.div_eq_of_lt (by lia)
  have hr : n % d = n := Nat.mod_eq_of_lt (by omega)
  unfold bitsOf nearest
  try dsimp only
  rw [hq, if_pos (by decide)]
  simp only [Nat.pow_zero, Nat.mul_one, Nat.zero_mul, Nat.zero_add, hq, hr]
  rw [if_pos h]
theorem inf_eq : INF = 2047 * 2 ^ 52 := by decide
theorem bits_great {n d : Nat} (hd : 0 < d) (h : d * 2 ^ 2098 ≤ n) : INF ≤ bitsOf n d := by
  have hq : 2 ^ 2098 ≤ n / d := (Nat.le_div_iff_mul_le hd).mpr (by rw [Nat.mul_comm]; exact h)
  have h53 : ¬ n / d < 2 ^ 53 := by
    have : 2 ^ 53 ≤ 2 ^ 2098 := Nat.pow_le_pow_right (by decide) (by decide)
    lia
  have hq0 : n / d ≠ 0 := fun z => h53 (by rw [z]; decide)
  unfold bitsOf
  try dsimp only
  rw [if_neg h53]
  have l1 : 2098 ≤ Nat.log2 (n / d) := (Nat.le_log2 hq0).mpr hq
  obtain ⟨e, he⟩ : ∃ e, Nat.log2 (n / d) - 52 = e := ⟨_, rfl⟩
  rw [he]
  have l2 : 2 ^ (52 + e) ≤ n / d := (Nat.le_log2 hq0).mp (by lia)
  have q1 : 2 ^ 52 ≤ n / (d * 2 ^ e) := by
    rw [← Nat.div_div_eq_div_mul, Nat.le_div_iff_mul_le (Nat.two_pow_pos e), ← Nat.pow_add]
    exact l2
  have a6 : 2 ^ 52 ≤ nearest n (d * 2 ^ e) := by
    unfold nearest
    try dsimp only
    split
    · omega
    · split <;> omega
  rw [inf_eq]
  have l3 : 2046 ≤ e := by lia
  clear hq h53 l1 l2 q1 h he hq0
  lia
def decR (c : Nat) (x : Int) : Option Nat := if c = 0 ∨ ((natText c).length : Int) + x < -330 then some 0 else if 310 < ((natText c).length : Int) + x then none
  else if INF ≤ ratioR (c * 10 ^ x.toNat) (10 ^ (-x).toNat) then none else some (ratioR (c * 10 ^ x.toNat) (10 ^ (-x).toNat))
theorem k1 : 2 ^ 1075 < 10 ^ 331 := by decide +kernel
theorem k2 : 2 ^ 1024 ≤ 10 ^ 310 := by decide +kernel
theorem decR_eq (c : Nat) (x : Int) : decR c x = if INF ≤ read10 c x then none else some (read10 c x) := by
  unfold decR
  by_cases h0 : c = 0
  · subst h0
    rw [if_pos (.inl rfl)]
    have : read10 0 x = 0 := by
      unfold read10
      rw [Nat.zero_mul, Nat.zero_mul]
      exact bits_small (Nat.pow_pos (by decide))
    rw [this, if_neg (by decide)]
  · have hc : 0 < c := by lia
    refine bg fun G' g' => ?_
    obtain ⟨d1, d2, d3⟩ := digLen hc
    refine g' ?_
    clear g' G'
    generalize (natText c).length = L at d1 d2 d3 ⊢
    by_cases h1 : (L : Int) + x < -330
    · rw [if_pos (.inr h1)]
      have : read10 c x = 0 := by
        unfold read10
        apply bits_small
        rw [show x.toNat = 0 by lia, Nat.pow_zero, Nat.mul_one]
        have a1 : 10 ^ L * 10 ^ 331 ≤ 10 ^ (-x).toNat := by
          rw [← Nat.pow_add]
          exact Nat.pow_le_pow_right (by decide) (by lia)
        have a2 : c * 2 ^ 1075 < 10 ^ L * 10 ^ 331 := Nat.lt_of_le_of_lt (Nat.mul_le_mul_right _ (Nat.le_of_lt d2)) (Nat.mul_lt_mul_of_pos_left k1 (Nat.pow_pos (by decide)))
        have a3 : 2 * (c * ONE) = c * 2 ^ 1075 := by
          show 2 * (c * 2 ^ 1074) = c * 2 ^ (1074 + 1)
          rw [pow_two_succ, Nat.mul_left_comm]
        (clear h1 d3 d2 d1 hc h0; lia)
      rw [this, if_neg (by decide)]
    · rw [if_neg (fun z => z.elim h0 h1)]
      by_cases h2 : 310 < (L : Int) + x
      · rw [if_pos h2]
        have : INF ≤ read10 c x := by
          unfold read10
          apply bits_great (Nat.pow_pos (by decide))
          have a1 : 10 ^ (-x).toNat * 10 ^ 310 ≤ 10 ^ (L - 1) * 10 ^ x.toNat := by
            rw [← Nat.pow_add, ← Nat.pow_add]
            exact Nat.pow_le_pow_right (by decide) (by (clear h1 d2 d1 hc h0; omega))
          have a2 : 10 ^ (-x).toNat * 2 ^ 1024 ≤ c * 10 ^ x.toNat := Nat.le_trans (Nat.mul_le_mul_left _ k2) (Nat.le_trans a1 (Nat.mul_le_mul_right _ d1))
          have a3 : 10 ^ (-x).toNat * 2 ^ 2098 = 10 ^ (-x).toNat * 2 ^ 1024 * ONE := by
            show _ = _ * 2 ^ 1074
            rw [Nat.mul_assoc, ← Nat.pow_add]
          rw [a3]
          exact Nat.mul_le_mul_right _ a2
        rw [if_pos this]
      · rw [if_neg h2]
        have : read10 c x = ratioR (c * 10 ^ x.toNat) (10 ^ (-x).toNat) := by
          unfold read10
          exact ratioR_eq (Nat.mul_pos hc (Nat.pow_pos (by decide))) (Nat.pow_pos (by decide))
        rw [this]
end DM

set_option Elab.async false
set_option linter.all false
namespace DM
open Sh27
def tk (c : Nat) : List Nat → Option (List Nat)
  | [] => none
  | d :: r => if d = c then some r else none
def digR (most : Nat) (t : List Nat) : Option (List Nat × List Nat) := if (t.take most).takeWhile isDigit = [] then none else some ((t.take most).takeWhile isDigit, t.drop ((t.take most).takeWhile isDigit).length)
def minus (t : List Nat) : Bool × List Nat := match tk 45 t with
  | some r => (true, r)
  | none => (false, t)
def powR (t : List Nat) : Option (Int × List Nat) := (digR 4 (minus t).2).map fun x => (if (minus t).1 = true then -(natOf x.1 : Int) else (natOf x.1 : Int), x.2)
def fracR (N : Nat) (a t : List Nat) : Option (List Nat × Int × List Nat) := match tk 46 t with
  | some r => (digR N r).map fun x => (a ++ x.1, -(x.1.length : Int), x.2)
  | none => some (a, 0, t)
def expR (x : Int) (t : List Nat) : Option (Int × List Nat) := match tk 101 t with
  | some r => (powR r).map fun y => (x + y.1, y.2)
  | none => some (x, t)
def readD (t : List Nat) : Option (Bool × List Nat × Int) := (digR t.length (minus t).2).bind fun x => (fracR t.length x.1 x.2).bind fun y => (expR y.2.1 y.2.2).bind fun z =>
  if z.2 = [] then some ((minus t).1, y.1, z.1) else none
theorem tk_yes (c : Nat) (r : List Nat) : tk c (c :: r) = some r := if_pos rfl
theorem tk_no {c d : Nat} (r : List Nat) (h : ¬ d = c) : tk c (d :: r) = none := if_neg h
theorem minus_yes (r : List Nat) : minus (45 :: r) = (true, r) := by
  unfold minus
  rw [tk_yes]
theorem minus_no {d : Nat} (r : List Nat) (h : ¬ d = 45) : minus (d :: r) = (false, d :: r) := by
  unfold minus
  rw [tk_no r h]
theorem minus_len (t : List Nat) : (minus t).2.length ≤ t.length := by
  match t with
  | [] => exact Nat.le_refl _
  | d :: r =>
    by_cases h : d = 45
    · subst h
      rw [minus_yes]
      simp
    · rw [minus_no r h]
      exact Nat.le_refl _
theorem power_no {d : Nat} (q : List Nat) (h : ¬ d = 45) : power (101 :: d :: q) = if 1 ≤ (d :: q).length ∧ (d :: q).length ≤ 4 ∧ (d :: q).all isDigit = true then some (natOf (d :: q) : Int) else none := by
  unfold power
  split
  · rename_i e; cases e
  · rename_i r e
    cases e
    split
    · rename_i q' e
      cases e
      exact absurd rfl h
    · rfl
  · rename_i h1 h2
    exact absurd rfl (h2 _)
theorem tw_len {α : Type} (p : α → Bool) : ∀ l : List α, (l.takeWhile p).length ≤ l.length
  | [] => Nat.le_refl _
  | a :: r => by
    rw [List.takeWhile_cons]
    split
    · simp only [List.length_cons]
      have := tw_len p r
      lia
    · exact Nat.zero_le _
theorem tw_drop {α : Type} (p : α → Bool) : ∀ l : List α, l.drop (l.takeWhile p).length = l.dropWhile p
  | [] => rfl
  | a :: r => by
    rw [List.takeWhile_cons, List.dropWhile_cons]
    split
    · exact tw_drop p r
    · rfl
theorem tw_all {α : Type} (p : α → Bool) : ∀ l : List α, (l.takeWhile p = l ↔ l.all p = true)
  | [] => by simp
  | a :: r => by
    rw [List.takeWhile_cons, List.all_cons]
    split
    · rename_i h
      rw [h]
      simp only [List.cons.injEq, true_and, Bool.true_and]
      exact tw_all p r
    · rename_i h
      simp [h]
theorem tw_full {α : Type} (p : α → Bool) : ∀ l : List α, l.length ≤ (l.takeWhile p).length → l.takeWhile p = l
  | [], _ => rfl
  | a :: r, h => by
    rw [List.takeWhile_cons] at h ⊢
    split at h
    · rename_i ha
      rw [if_pos ha, tw_full p r (by simpa using h)]
    · simp at h
theorem digR_long {most : Nat} {t : List Nat} (h : t.length ≤ most) : digR most t = if (span t).1 = [] then none else some (span t) := by
  unfold digR span
  rw [List.take_of_length_le h, tw_drop]
theorem digR_end {most : Nat} {q a : List Nat} : digR most q = some (a, []) ↔ q ≠ [] ∧ q.length ≤ most ∧ q.all isDigit = true ∧ a = q := by
  unfold digR
  constructor
  · intro h
    split at h
    · cases h
    · rename_i hn
      injection h with h
      injection h with h1 h2
      have h3 := List.drop_eq_nil_iff.mp h2
      have h4 := tw_len isDigit (q.take most)
      have h5 : (q.take most).length = min most q.length := List.length_take
      have h6 : q.length ≤ most := by lia
      rw [List.take_of_length_le h6] at hn h1 h3
      have h7 : q.takeWhile isDigit = q := tw_full _ _ h3
      refine ⟨fun z => hn (by rw [h7]; exact z), h6, (tw_all _ _).mp h7, ?_⟩
      rw [← h1, h7]
  · intro h'
    refine bg fun G' g' => ?_
    obtain ⟨h1, h2, h3, rfl⟩ := h'
    refine g' ?_
    clear g' G'
    rw [List.take_of_length_le h2, (tw_all _ _).mpr h3, if_neg h1, List.drop_length]
theorem pow_end (r : List Nat) : (powR r).bind (fun y => if y.2 = [] then some y.1 else none) = power (101 :: r) := by
  have key : ∀ q : List Nat, ∀ f : List Nat → Int, ((digR 4 q).map fun x => (f x.1, x.2)).bind (fun y => if y.2 = [] then some y.1 else none) = if 1 ≤ q.length ∧ q.length ≤ 4 ∧ q.all isDigit = true then some (f q) else none := fun q f => by
    by_cases h : 1 ≤ q.length ∧ q.length ≤ 4 ∧ q.all isDigit = true
    · rw [if_pos h, (digR_end (a := q)).mpr ⟨fun z => by rw [z] at h; simp at h, h.2.1, h.2.2, rfl⟩]
      rfl
    · rw [if_neg h]
      cases e : digR 4 q with
      | none => rfl
      | some x =>
        obtain ⟨a, b⟩ := x
        by_cases hb : b = []
        · subst hb
          refine bg fun G' g' => ?_
          obtain ⟨z1, z2, z3, _⟩ := digR_end.mp e
          refine g' ?_
          clear g' G'
          refine absurd ⟨?_, z2, z3⟩ h
          cases q with
          | nil => exact absurd rfl z1
          | cons _ _ => simp
        · show (if b = [] then some (f a) else none) = none
          rw [if_neg hb]
  unfold powR
  match r with
  | [] =>
    rw [show minus [] = (false, []) from rfl]
    simp [digR, power]
  | d :: q =>
    by_cases hd : d = 45
    · subst hd
      rw [minus_yes, key q fun a => if true = true then -(natOf a : Int) else (natOf a : Int)]
      simp only [power, if_pos]
    · rw [minus_no q hd, key (d :: q) fun a => if false = true then -(natOf a : Int) else (natOf a : Int), power_no q hd]
      simp only [Bool.false_eq_true, if_false]
theorem exp_end (x : Int) (t : List Nat) : (expR x t).bind (fun z => if z.2 = [] then some z.1 else none) = (power t).map fun y => x + y := by
  match t with
  | [] => simp [expR, tk, power]
  | d :: r =>
    by_cases hd : d = 101
    · subst hd
      rw [← pow_end]
      unfold expR
      rw [tk_yes]
      show ((powR r).map fun y => (x + y.1, y.2)).bind _ = _
      cases powR r with
      | none => rfl
      | some y =>
        obtain ⟨a, b⟩ := y
        by_cases hb : b = []
        · simp [hb]
        · simp [hb]
    · have e1 : power (d :: r) = none := by
        unfold power
        split
        · rename_i h; cases h
        · rename_i h; cases h; exact absurd rfl hd
        · rfl
      rw [e1]
      unfold expR
      rw [tk_no r hd]
      simp
def partsR (t : List Nat) : Option (List Nat × Int) :=
  if (span t).1 = [] then none else match (span t).2 with
  | 46 :: r => if (span r).1 = [] then none else (power (span r).2).map fun x => ((span t).1 ++ (span r).1, x - ((span r).1.length : Int))
  | r => (power r).map fun x => ((span t).1, x)
theorem size_parts (t : List Nat) : sizeRead t = (partsR t).map fun x => read10 (natOf x.1) x.2 := by
  unfold sizeRead partsR
  try dsimp only
  by_cases h : (span t).1 = []
  · rw [if_pos h, if_pos h]
    rfl
  · rw [if_neg h, if_neg h]
    split
    · rename_i r e
      simp only [e]
      by_cases h2 : (span r).1 = []
      · rw [if_pos h2, if_pos h2]
        rfl
      · rw [if_neg h2, if_neg h2, Option.map_map]
        rfl
    · rename_i r hr
      split
      · rename_i r' e
        exact absurd e (hr r')
      · rw [Option.map_map]
        rfl
theorem span_len (t : List Nat) : (span t).2.length ≤ t.length := by
  unfold span
  try dsimp only
  rw [← tw_drop, List.length_drop]
  omega
theorem body_eq {N : Nat} {t : List Nat} (h : t.length ≤ N) (g : Bool) : ((digR N t).bind fun x => (fracR N x.1 x.2).bind fun y => (expR y.2.1 y.2.2).bind fun z => if z.2 = [] then some (g, y.1, z.1) else none) = (partsR t).map fun x => (g, x.1, x.2) := by
  have fin : ∀ (ds : List Nat) (x : Int) (t3 : List Nat), ((expR x t3).bind fun z => if z.2 = [] then some (g, ds, z.1) else none) = ((power t3).map fun y => x + y).map fun w => (g, ds, w) := fun ds x t3 => by
    rw [← exp_end]
    cases expR x t3 with
    | none => rfl
    | some z =>
      by_cases hz : z.2 = []
      · simp [hz]
      · simp [hz]
  rw [digR_long h]
  unfold partsR
  by_cases h1 : (span t).1 = []
  · rw [if_pos h1, if_pos h1]
    rfl
  · rw [if_neg h1, if_neg h1]
    show ((fracR N (span t).1 (span t).2).bind _) = _
    have hl := span_len t
    generalize (span t).1 = a at h1 ⊢
    generalize (span t).2 = t2 at hl ⊢
    match t2, hl with
    | [], _ =>
      rw [show fracR N a [] = some (a, 0, []) from rfl]
      show ((expR 0 []).bind fun z => if z.2 = [] then some (g, a, z.1) else none) = _
      rw [fin, Option.map_map, Option.map_map]
      congr 1
      funext y
      simp
    | d :: r, hl =>
      by_cases hd : d = 46
      · subst hd
        have hf : fracR N a (46 :: r) = (digR N r).map fun x => (a ++ x.1, -(x.1.length : Int), x.2) := by
          unfold fracR
          rw [tk_yes]
        rw [hf, digR_long (by simp at hl; lia)]
        by_cases h2 : (span r).1 = []
        · rw [if_pos h2]
          simp only [h2, if_true]
          rfl
        · rw [if_neg h2]
          simp only [if_neg h2]
          show ((expR _ _).bind _) = _
          rw [fin, Option.map_map, Option.map_map]
          congr 1
          funext y
          simp only [Function.comp]
          rw [Int.add_comm, Int.sub_eq_add_neg]
      · have hf : fracR N a (d :: r) = some (a, 0, d :: r) := by
          unfold fracR
          rw [tk_no r hd]
        rw [hf]
        show ((expR _ _).bind _) = _
        rw [fin]
        split
        · rename_i e
          cases e
          exact absurd rfl hd
        · rw [Option.map_map, Option.map_map]
          congr 1
          funext y
          simp
theorem readD_parts (t : List Nat) : readD t = (partsR (minus t).2).map fun x => ((minus t).1, x.1, x.2) := by
  unfold readD
  exact body_eq (minus_len t) _
theorem undecimal_eq (t : List Nat) : undecimal t = match readD t with
    | none => .none_
    | some (g, ds, x) => match decR (natOf ds) x with
      | none => .great
      | some b => .num (if g = true ∧ 0 < b then b + SIGN else b) := by
  have key : ∀ (g : Bool) (r : List Nat), (match (sizeRead r).map fun s => ((if g = true then SIGN else 0), s) with
      | none => Read.none_
      | some (g, s) => if INF ≤ s then Read.great else Read.num (if s = 0 then 0 else g + s)) = match (partsR r).map fun x => (g, x.1, x.2) with
    | none => .none_
    | some (g, ds, x) => match decR (natOf ds) x with
      | none => .great
      | some b => .num (if g = true ∧ 0 < b then b + SIGN else b) := fun g r => by
    rw [size_parts]
    cases partsR r with
    | none => rfl
    | some x =>
      obtain ⟨ds, x⟩ := x
      simp only [Option.map_some]
      rw [decR_eq]
      generalize read10 (natOf ds) x = s
      by_cases h : INF ≤ s
      · rw [if_pos h, if_pos h]
      · rw [if_neg h, if_neg h]
        simp only
        congr 1
        by_cases h0 : s = 0
        · subst h0
          simp
        · rw [if_neg h0]
          cases g with
          | true => simp [show 0 < s by omega, Nat.add_comm]
          | false => simp
  rw [readD_parts]
  match t with
  | [] => exact key false []
  | d :: r =>
    by_cases hd : d = 45
    · subst hd
      exact key true r
    · rw [minus_no r hd, ← key false (d :: r)]
      unfold undecimal
      split
      · rename_i e
        split at e
        · rename_i h
          cases h
          exact absurd rfl hd
        · simp only [Bool.false_eq_true, if_false, e]
      · rename_i g s e
        split at e
        · rename_i h
          cases h
          exact absurd rfl hd
        · simp only [Bool.false_eq_true, if_false, e]
end DM

set_option Elab.async false
set_option linter.all false
namespace DM
open Sh27
def whR (r : Nat) : Nat := if r < 2 ^ 52 then r else 2 ^ 52 + r % 2 ^ 52
def exR (r : Nat) : Nat := r / 2 ^ 52 - 1
def beta (r : Nat) : Nat := if whR r = 2 ^ 52 ∧ 0 < exR r then 1 else 2
theorem wh_pos {r : Nat} (h : 0 < r) : 0 < whR r := by
  unfold whR
  split <;> omega
theorem wh_lt (r : Nat) : whR r < 2 ^ 53 := by
  unfold whR
  split <;> omega
theorem wh_par (r : Nat) : whR r % 2 = r % 2 := by
  unfold whR
  split <;> omega
theorem wh_form {r : Nat} (h : 2 ^ 52 ≤ r) : r = exR r * 2 ^ 52 + whR r ∧ 2 ^ 52 ≤ whR r := by
  unfold whR exR
  rw [if_neg (by lia)]
  lia
theorem units_wh (r : Nat) : units r = whR r * 2 ^ exR r := by
  rcases Nat.lt_or_ge r (2 ^ 52) with h | h
  · unfold units whR exR
    rw [if_pos h, if_pos h, Nat.div_eq_of_lt h]
    simp
  · obtain ⟨h1, h2⟩ := wh_form h
    have := wh_lt r
    have e := units_big (e := exR r) h2 (by (clear h1 h; lia))
    rw [← h1] at e
    exact e
theorem mid_hi (r : Nat) : units r + units (r + 1) = (2 * whR r + 1) * 2 ^ exR r := by
  have e1 : units (r + 1) = (whR r + 1) * 2 ^ exR r := by
    rcases Nat.lt_or_ge r (2 ^ 52) with h | h
    · rw [units_small (by lia)]
      unfold whR exR
      rw [if_pos h, Nat.div_eq_of_lt h]
      simp
    · obtain ⟨h1, h2⟩ := wh_form h
      have h3 := wh_lt r
      have e := units_big (e := exR r) (m := whR r + 1) (by (clear h1 h; lia)) (by (clear h1 h; lia))
      rw [← Nat.add_assoc, ← h1] at e
      exact e
  rw [units_wh, e1, ← Nat.add_mul]
  congr 1
  lia
theorem mid_lo {r : Nat} (h0 : 0 < r) : 2 * (units (r - 1) + units r) = (4 * whR r - beta r) * 2 ^ exR r := by
  rcases Nat.lt_or_ge r (2 ^ 52) with h | h
  · rw [units_small (by omega), units_small (by lia)]
    unfold beta whR exR
    rw [if_pos h, if_neg (by lia), Nat.div_eq_of_lt h]
    simp
    lia
  · obtain ⟨h1, h2⟩ := wh_form h
    have h3 := wh_lt r
    rw [units_wh r]
    by_cases hb : whR r = 2 ^ 52 ∧ 0 < exR r
    · have eb : beta r = 1 := if_pos hb
      rw [eb, hb.1]
      rw [hb.1] at h1
      obtain ⟨e, he⟩ : ∃ e, exR r = e + 1 := ⟨exR r - 1, by lia⟩
      have hu := units_big (e := e) (m := 2 ^ 53 - 1) (by lia) (by lia)
      rw [show e * 2 ^ 52 + (2 ^ 53 - 1) = r - 1 by lia] at hu
      rw [hu, he, pow_two_succ e]
      generalize 2 ^ e = X
      lia
    · have eb : beta r = 2 := if_neg hb
      rw [eb]
      have hu : units (r - 1) = (whR r - 1) * 2 ^ exR r := by
        rcases Nat.lt_or_ge (2 ^ 52) (whR r) with z | z
        · have e := units_big (e := exR r) (m := whR r - 1) (by (clear eb hb h1 h h0; lia)) (by (clear eb hb h1 h h0; lia))
          rw [show exR r * 2 ^ 52 + (whR r - 1) = r - 1 by lia] at e
          exact e
        · have e0 : exR r = 0 := by (clear eb h1 h h0; lia)
          rw [e0, units_small (by lia)]
          (clear eb hb h h0; lia)
      rw [hu, ← Nat.add_mul, ← Nat.mul_assoc]
      congr 1
      (clear hu eb hb h1 h h0; lia)
theorem beta_or (r : Nat) : (beta r = 1 ∧ whR r = 2 ^ 52) ∨ beta r = 2 := by
  unfold beta
  split
  · rename_i h
    exact .inl ⟨rfl, h.1⟩
  · exact .inr rfl
theorem read_iff {r N D : Nat} (h0 : 0 < r) (hD : 0 < D) : bitsOf N D = r ↔
    ((4 * whR r - beta r) * (2 ^ exR r * D) < 4 * N ∨ ((4 * whR r - beta r) * (2 ^ exR r * D) = 4 * N ∧ whR r % 2 = 0)) ∧ (4 * N < (4 * whR r + 2) * (2 ^ exR r * D) ∨ (4 * N = (4 * whR r + 2) * (2 ^ exR r * D) ∧ whR r % 2 = 0)) := by
  have e1 : 2 * ((units (r - 1) + units r) * D) = (4 * whR r - beta r) * (2 ^ exR r * D) := by
    rw [← Nat.mul_assoc, mid_lo h0, Nat.mul_assoc]
  have e2 : 2 * ((units r + units (r + 1)) * D) = (4 * whR r + 2) * (2 ^ exR r * D) := by
    rw [mid_hi, Nat.mul_assoc, ← Nat.mul_assoc]
    congr 1
    lia
  have hp := wh_par r
  rw [bitsOf_iff hD, ← e1, ← e2]
  constructor
  · intro h'
    refine bg fun G' g' => ?_
    obtain ⟨a, b, c, d⟩ := h'
    refine g' ?_
    clear g' G'
    have a' : (units (r - 1) + units r) * D ≤ 2 * N := a.resolve_left (by lia)
    rcases Nat.mod_two_eq_zero_or_one r with z | z
    · exact ⟨by (clear d c b a e2 e1 hD h0; lia), by (clear a' d b a e2 e1 hD h0; lia)⟩
    · have := b z
      have := d z
      exact ⟨by (clear this z a' d c b a hp e2 e1 hD h0; lia), by (clear z a' d c b a hp e2 e1 hD h0; lia)⟩
  · rintro ⟨a, b⟩
    exact ⟨.inr (by (clear hp e2 e1 hD h0; lia)), fun z => by lia, by (clear a hp e2 e1 hD h0; lia), fun z => by lia⟩
def loB (num q step below : Nat) (ends : Bool) : Bool := decide (num - q * step < below) || (ends && decide (num - q * step = below))
def hiB (num q step above : Nat) (ends : Bool) : Bool := decide (step - (num - q * step) < above) || (ends && decide (step - (num - q * step) = above))
def nearB (num q step : Nat) : Bool := decide (num - q * step < step - (num - q * step)) || (decide (num - q * step = step - (num - q * step)) && decide (q % 2 = 0))
def pick (num step below above : Nat) (ends : Bool) : Option Nat :=
  if loB num (num / step) step below ends = true ∧ hiB num (num / step) step above ends = true then some (if nearB num (num / step) step = true then num / step else num / step + 1)
  else if loB num (num / step) step below ends = true then some (num / step) else if hiB num (num / step) step above ends = true then some (num / step + 1) else none
theorem near_eq {num step : Nat} (hs : 0 < step) : (if nearB num (num / step) step = true then num / step else num / step + 1) = nearest num step := by
  have h := Nat.div_add_mod num step
  have hr := Nat.mod_lt num hs
  have e : num - num / step * step = num % step := by
    rw [Nat.mul_comm]
    omega
  unfold nearB nearest
  try dsimp only
  rw [e]
  generalize num % step = r at *
  generalize num / step = q at *
  simp only [Bool.or_eq_true, Bool.and_eq_true, decide_eq_true_eq]
  by_cases h1 : 2 * r < step
  · rw [if_pos h1, if_pos (.inl (by lia))]
  · rw [if_neg h1]
    by_cases h2 : step < 2 * r
    · rw [if_pos h2, if_neg (by lia)]
    · rw [if_neg h2]
      rcases Nat.mod_two_eq_zero_or_one q with z | z
      · rw [if_pos (.inr ⟨by lia, z⟩), z]; rfl
      · rw [if_neg (by lia), z]
structure Meas (A S U T : Nat) : Prop where
  a : 0 < A
  s : 0 < S
  u : 0 < U
  t : 0 < T
  eq : A * T = S * U
theorem Meas.le {A S U T : Nat} (M : Meas A S U T) (i j : Nat) : i * A ≤ j * S ↔ i * U ≤ j * T := by
  have e1 : i * A * T = i * U * S := by rw [Nat.mul_assoc, M.eq, Nat.mul_comm S U, Nat.mul_assoc]
  have e2 : j * S * T = j * T * S := Nat.mul_right_comm j S T
  constructor
  · intro h
    have h2 : i * A * T ≤ j * S * T := Nat.mul_le_mul_right T h
    rw [e1, e2] at h2
    exact Nat.le_of_mul_le_mul_right h2 M.s
  · intro h
    have h2 : i * U * S ≤ j * T * S := Nat.mul_le_mul_right S h
    rw [← e1, ← e2] at h2
    exact Nat.le_of_mul_le_mul_right h2 M.t
theorem Meas.le' {A S U T : Nat} (M : Meas A S U T) (i j : Nat) : j * S ≤ i * A ↔ j * T ≤ i * U := by
  have e1 : i * A * T = i * U * S := by rw [Nat.mul_assoc, M.eq, Nat.mul_comm S U, Nat.mul_assoc]
  have e2 : j * S * T = j * T * S := Nat.mul_right_comm j S T
  constructor
  · intro h
    have h2 : j * S * T ≤ i * A * T := Nat.mul_le_mul_right T h
    rw [e1, e2] at h2
    exact Nat.le_of_mul_le_mul_right h2 M.s
  · intro h
    have h2 : j * T * S ≤ i * U * S := Nat.mul_le_mul_right S h
    rw [← e1, ← e2] at h2
    exact Nat.le_of_mul_le_mul_right h2 M.t
theorem Meas.div {A S U T : Nat} (M : Meas A S U T) (i : Nat) : i * A / S = i * U / T := by
  have h1 : ∀ j, j ≤ i * A / S ↔ j ≤ i * U / T := fun j => by
    rw [Nat.le_div_iff_mul_le M.s, Nat.le_div_iff_mul_le M.t]
    exact M.le' i j
  have a := (h1 (i * A / S)).mp (Nat.le_refl _)
  have b := (h1 (i * U / T)).mpr (Nat.le_refl _)
  lia
theorem Meas.near {A S U T : Nat} (M : Meas A S U T) (i : Nat) : nearest (i * A) S = nearest (i * U) T := by
  rw [← nearest_scale (i * A) S T M.t, ← nearest_scale (i * U) T S M.s, Nat.mul_assoc, M.eq, Nat.mul_assoc, Nat.mul_comm U S, Nat.mul_comm T S]
theorem pick_eq {r x0 D A S : Nat} (h0 : 0 < r) (hx : 0 < x0) (hD : 0 < D) (M : Meas A S (2 ^ exR r * D) (4 * x0)) :
    pick (4 * whR r * A) S (beta r * A) (2 * A) (decide (whR r % 2 = 0)) =
      (let n := units r * D
       let c := n / x0
       let lo := bitsOf (c * x0) D == r
       let hi := bitsOf ((c + 1) * x0) D == r
       if lo = true ∧ hi = true then some (nearest n x0) else if lo = true then some c else if hi = true then some (c + 1) else none) := by
  have en : units r * D = whR r * (2 ^ exR r * D) := by rw [units_wh, Nat.mul_assoc]
  have ed : 4 * whR r * (2 ^ exR r * D) = 4 * (units r * D) := by rw [en, Nat.mul_assoc]
  have eq : 4 * whR r * A / S = units r * D / x0 := by
    rw [M.div, ed, Nat.mul_div_mul_left _ _ (by decide)]
  have enr : nearest (4 * whR r * A) S = nearest (units r * D) x0 := by
    rw [M.near, ed, Nat.mul_comm 4, Nat.mul_comm 4, nearest_scale _ _ 4 (by decide)]
  try dsimp only
  unfold pick
  rw [near_eq M.s, enr, eq]
  have hq1 : units r * D / x0 * S ≤ 4 * whR r * A := by rw [← eq]; exact Nat.div_mul_le_self _ _
  have hq2 : 4 * whR r * A < (units r * D / x0 + 1) * S := by
    rw [← eq, Nat.mul_comm _ S]
    exact Nat.lt_mul_div_succ _ M.s
  generalize units r * D / x0 = c at hq1 hq2 ⊢
  have hb : beta r ≤ 4 * whR r := by
    have := wh_pos h0
    rcases beta_or r with ⟨z, _⟩ | z <;> omega
  have ex1 : 4 * (c * x0) = c * (4 * x0) := Nat.mul_left_comm 4 c x0
  have ex2 : 4 * ((c + 1) * x0) = (c + 1) * (4 * x0) := Nat.mul_left_comm 4 (c + 1) x0
  -- the lower one
  have l1 := M.le (4 * whR r - beta r) c
  have l2 := M.le' (4 * whR r - beta r) c
  have l3 := M.le' (4 * whR r) c
  have es : (4 * whR r - beta r) * A = 4 * whR r * A - beta r * A := Nat.sub_mul _ _ _
  have es' : beta r * A ≤ 4 * whR r * A := Nat.mul_le_mul_right A hb
  have b1 : beta r * A > 0 := Nat.mul_pos (by rcases beta_or r with ⟨z, _⟩ | z <;> omega) M.a
  have hU := M.u
  have hu2 : (4 * whR r + 2) * (2 ^ exR r * D) = 4 * whR r * (2 ^ exR r * D) + 2 * (2 ^ exR r * D) := Nat.add_mul _ _ _
  have hlo : loB (4 * whR r * A) c S (beta r * A) (decide (whR r % 2 = 0)) = (bitsOf (c * x0) D == r) := by
    rw [Bool.eq_iff_iff, beq_iff_eq, read_iff h0 hD, ex1]
    unfold loB
    simp only [Bool.or_eq_true, Bool.and_eq_true, decide_eq_true_eq]
    have g3 := l3.mp hq1
    constructor
    · intro h
      refine ⟨?_, .inl (by (clear h b1 es' es l3 l2 l1 ex2 hb hq2 hq1 enr eq hD hx h0; lia))⟩
      rcases h with h | ⟨h, h'⟩
      · left
        have : ¬ c * S ≤ (4 * whR r - beta r) * A := by (clear g3 hu2 hU b1 l3 l2 l1 ex2 ex1 hb hq2 enr eq ed en hD hx h0; omega)
        have := (not_congr l2).mp this
        (clear h g3 hu2 hU b1 es' es l3 l2 l1 ex2 hb hq2 hq1 enr eq ed en hD hx h0; lia)
      · right
        have t1 := l1.mp (by (clear h g3 hu2 hU b1 l3 l2 l1 ex2 ex1 hb hq2 enr eq ed en hD hx h0; omega))
        have t2 := l2.mp (by (clear t1 h g3 hu2 hU b1 l3 l2 l1 ex2 ex1 hb hq2 enr eq ed en hD hx h0; omega))
        exact ⟨by lia, h⟩
    · rintro ⟨h, _⟩
      rcases h with h | ⟨h, h'⟩
      · left
        have : ¬ c * (4 * x0) ≤ (4 * whR r - beta r) * (2 ^ exR r * D) := by lia
        have := (not_congr l2).mpr this
        (clear h b1 l3 l2 l1 ex2 hb hq2 enr eq hD hx h0; lia)
      · right
        have t1 := l1.mpr (by lia)
        have t2 := l2.mpr (by lia)
        exact ⟨h', by (clear h' h b1 l3 l2 l1 ex2 hb hq2 enr eq hD hx h0; lia)⟩
  -- the upper one
  have m1 := M.le (4 * whR r + 2) (c + 1)
  have m2 := M.le' (4 * whR r + 2) (c + 1)
  have m3 := M.le' (4 * whR r) (c + 1)
  have et : (4 * whR r + 2) * A = 4 * whR r * A + 2 * A := Nat.add_mul _ _ _
  have ec : (c + 1) * S = c * S + S := Nat.succ_mul _ _
  have hu3 : (4 * whR r - beta r) * (2 ^ exR r * D) ≤ 4 * whR r * (2 ^ exR r * D) := Nat.mul_le_mul_right _ (by (clear ec et m3 m2 m1 hlo hu2 hU b1 es' es l3 l2 l1 ex2 ex1 hq2 hq1 enr eq ed en hD hx h0; omega))
  have hhi : hiB (4 * whR r * A) c S (2 * A) (decide (whR r % 2 = 0)) = (bitsOf ((c + 1) * x0) D == r) := by
    rw [Bool.eq_iff_iff, beq_iff_eq, read_iff h0 hD, ex2]
    unfold hiB
    simp only [Bool.or_eq_true, Bool.and_eq_true, decide_eq_true_eq]
    have g3 : ¬ (c + 1) * (4 * x0) ≤ 4 * whR r * (2 ^ exR r * D) := (not_congr m3).mp (by lia)
    constructor
    · intro h
      refine ⟨.inl (by lia), ?_⟩
      rcases h with h | ⟨h, h'⟩
      · left
        have : ¬ (4 * whR r + 2) * A ≤ (c + 1) * S := by (clear g3 hu3 m3 m2 m1 hlo hu2 hU b1 es' es l3 l2 l1 ex2 ex1 hb enr eq ed en hD hx h0; omega)
        have := (not_congr m1).mp this
        lia
      · right
        have t1 := m1.mp (by lia)
        have t2 := m2.mp (by lia)
        exact ⟨by lia, h⟩
    · rintro ⟨_, h⟩
      rcases h with h | ⟨h, h'⟩
      · left
        have : ¬ (4 * whR r + 2) * (2 ^ exR r * D) ≤ (c + 1) * (4 * x0) := by lia
        have := (not_congr m1).mpr this
        lia
      · right
        have t1 := m1.mpr (by lia)
        have t2 := m2.mpr (by lia)
        exact ⟨h', by (clear h' h g3 hu3 m3 m2 m1 hlo hu2 hU b1 es' es l3 l2 l1 ex2 ex1 hb enr eq ed en hD hx h0; lia)⟩
  rw [hlo, hhi]
end DM

set_option Elab.async false
set_option linter.all false
set_option exponentiation.threshold 3000
namespace DM
open Sh27
def unitR (e : Nat) (tens : Int) : Nat := 10 ^ (-tens).toNat * 2 ^ ((e : Int) - 1074 - 2).toNat
def oneR (e : Nat) (tens : Int) : Nat := 10 ^ tens.toNat * 2 ^ (2 - ((e : Int) - 1074)).toNat
theorem meas (e : Nat) (tens : Int) (left : Nat) : Meas (unitR e tens) (oneR e tens * 10 ^ left) (2 ^ e * 10 ^ (-(tens + left)).toNat) (4 * (ONE * 10 ^ (tens + left).toNat)) := by
  have p10 : ∀ n, 0 < 10 ^ n := fun n => Nat.pow_pos (by decide)
  refine ⟨Nat.mul_pos (p10 _) (Nat.two_pow_pos _), Nat.mul_pos (Nat.mul_pos (p10 _) (Nat.two_pow_pos _)) (p10 _), Nat.mul_pos (Nat.two_pow_pos _) (p10 _), Nat.mul_pos (by decide) (Nat.mul_pos (Nat.two_pow_pos 1074) (p10 _)), ?_⟩
  unfold unitR oneR
  have e10 : 10 ^ (-tens).toNat * 10 ^ (tens + left).toNat = 10 ^ tens.toNat * 10 ^ left * 10 ^ (-(tens + left)).toNat := by
    rw [← Nat.pow_add, ← Nat.pow_add, ← Nat.pow_add]
    congr 1
    lia
  have e2 : 2 ^ ((e : Int) - 1074 - 2).toNat * (4 * ONE) = 2 ^ (2 - ((e : Int) - 1074)).toNat * 2 ^ e := by
    have : 4 * ONE = 2 ^ 1076 := by
      show 2 ^ 2 * 2 ^ 1074 = _
      rw [← Nat.pow_add]
    rw [this, ← Nat.pow_add, ← Nat.pow_add]
    congr 1
    lia
  calc 10 ^ (-tens).toNat * 2 ^ ((e : Int) - 1074 - 2).toNat * (4 * (ONE * 10 ^ (tens + left).toNat))
      = (10 ^ (-tens).toNat * 10 ^ (tens + left).toNat) * (2 ^ ((e : Int) - 1074 - 2).toNat * (4 * ONE)) := by
        generalize ONE = O
        ac_rfl
    _ = (10 ^ tens.toNat * 10 ^ left * 10 ^ (-(tens + left)).toNat) * (2 ^ (2 - ((e : Int) - 1074)).toNat * 2 ^ e) := by rw [e10, e2]
    _ = _ := by ac_rfl
def pickK (r : Nat) (p : Int) (k : Nat) : Option Nat := pick (4 * whR r * unitR (exR r) (p - 17)) (oneR (exR r) (p - 17) * 10 ^ (17 - k)) (beta r * unitR (exR r) (p - 17)) (2 * unitR (exR r) (p - 17)) (decide (whR r % 2 = 0))
theorem with_eq {r : Nat} (h0 : 0 < r) (p : Int) {k : Nat} (hk : k ≤ 17) : withDigits r (units r) p k = (pickK r p k).map fun c => (c, p - (k : Int)) := by
  have M := meas (exR r) (p - 17) (17 - k)
  have ex : p - 17 + ((17 - k : Nat) : Int) = p - (k : Int) := by omega
  rw [ex] at M
  have hx : 0 < ONE * 10 ^ (p - (k : Int)).toNat := Nat.mul_pos (Nat.two_pow_pos 1074) (Nat.pow_pos (by decide))
  unfold pickK
  rw [pick_eq h0 hx (Nat.pow_pos (by decide)) M]
  have er : ∀ c, read10 c (p - (k : Int)) = bitsOf (c * (ONE * 10 ^ (p - (k : Int)).toNat)) (10 ^ (-(p - (k : Int))).toNat) := fun c => by
    unfold read10
    rw [Nat.mul_right_comm, Nat.mul_assoc]
  unfold withDigits
  try dsimp only
  rw [er, er]
  split
  · rfl
  · split
    · rfl
    · split <;> rfl
structure PT (u : Nat) (p : Int) : Prop where
  hi : u * 10 ^ (-p).toNat < ONE * 10 ^ p.toNat
  lo : ONE * 10 ^ (p - 1).toNat ≤ u * 10 ^ (-(p - 1)).toNat
theorem lt10_up {u : Nat} {p q : Int} (h : p ≤ q) (a : u * 10 ^ (-p).toNat < ONE * 10 ^ p.toNat) : u * 10 ^ (-q).toNat < ONE * 10 ^ q.toNat :=
  Nat.lt_of_le_of_lt (Nat.mul_le_mul_left u (Nat.pow_le_pow_right (by decide) (by lia))) (Nat.lt_of_lt_of_le a (Nat.mul_le_mul_left _ (Nat.pow_le_pow_right (by decide) (by lia))))
theorem point_eq {u : Nat} {p : Int} (P : PT u p) (h1 : -350 ≤ p) (h2 : p < 350) : pointOf u = p := by
  unfold pointOf
  have hf : ((List.range 700).find? fun (i : Nat) => decide (u * 10 ^ (350 - (i : Int)).toNat < ONE * 10 ^ ((i : Int) - 350).toNat)) = some (p + 350).toNat := by
    rw [List.find?_range_eq_some]
    refine ⟨?_, by simp; lia, fun j hj => ?_⟩
    · have := P.hi
      rw [show (350 - ((p + 350).toNat : Int)) = -p by lia, show (((p + 350).toNat : Int) - 350) = p by lia]
      exact decide_eq_true this
    · have hl := P.lo
      rw [Bool.not_eq_true', decide_eq_false_iff_not]
      intro a
      rw [show (350 - (j : Int)) = -((j : Int) - 350) by lia] at a
      have := lt10_up (q := p - 1) (by (clear a hl; lia)) a
      omega
  rw [hf]
  simp only [Option.map_some, Option.getD_some]
  lia
theorem cancel10 (X Y a b : Nat) (q : Int) (h : (a : Int) - (b : Int) = q) : ∃ k, 0 < k ∧ X * 10 ^ b = X * 10 ^ (-q).toNat * k ∧ Y * 10 ^ a = Y * 10 ^ q.toNat * k := by
  rcases Int.le_total 0 q with z | z
  · exact ⟨10 ^ b, Nat.pow_pos (by decide), by rw [show (-q).toNat = 0 by lia, Nat.pow_zero, Nat.mul_one], by rw [show a = q.toNat + b by lia, Nat.pow_add, Nat.mul_assoc]⟩
  · exact ⟨10 ^ a, Nat.pow_pos (by decide), by rw [show b = (-q).toNat + a by lia, Nat.pow_add, Nat.mul_assoc], by rw [show q.toNat = 0 by (clear h; omega), Nat.pow_zero, Nat.mul_one]⟩
theorem pt_of {u L : Nat} {s : Nat} (hL : 1 ≤ L) (a : u * 10 ^ s < ONE * 10 ^ L) (b : ONE * 10 ^ (L - 1) ≤ u * 10 ^ s) : PT u ((L : Int) - (s : Int)) := by
  refine bg fun G' g' => ?_
  obtain ⟨k, hk, e1, e2⟩ := cancel10 u ONE L s _ rfl
  refine g' ?_
  clear g' G'
  refine bg fun G' g' => ?_
  obtain ⟨k', hk', e1', e2'⟩ := cancel10 u ONE (L - 1) s ((L : Int) - (s : Int) - 1) (by lia)
  refine g' ?_
  clear g' G'
  refine ⟨?_, ?_⟩
  · rw [e1, e2] at a
    exact Nat.lt_of_mul_lt_mul_right a
  · rw [e1', e2'] at b
    exact Nat.le_of_mul_le_mul_right b hk'
def placesR (r : Nat) : Int := if 1074 ≤ exR r then ((natText (whR r * 2 ^ (exR r - 1074))).length : Int) else ((natText (whR r * 10 ^ 341 / 2 ^ (1074 - exR r))).length : Int) - 341
theorem ex_le {r : Nat} (h : r < INF) : exR r ≤ 2045 := by
  rw [inf_eq] at h
  unfold exR
  omega
theorem k3 : 2 ^ 1074 ≤ 10 ^ 341 := by decide +kernel
theorem k4 : 2 ^ 53 * 2 ^ 971 ≤ 10 ^ 310 := by decide +kernel
theorem k5 : 2 ^ 53 ≤ 10 ^ 16 := by decide +kernel
theorem natLen {c k : Nat} (hk : 0 < k) (h : c < 10 ^ k) : (natText c).length ≤ k := by
  have e : (natText c).length = (Nat.toDigits 10 c).length := by simp [natText]
  rw [e]
  exact (Nat.length_toDigits_le_iff (by decide) hk).mpr h
theorem places_pt {r : Nat} (h0 : 0 < r) (h1 : r < INF) : PT (units r) (placesR r) ∧ -350 ≤ placesR r ∧ placesR r ≤ 310 := by
  have hw := wh_pos h0
  have hw2 := wh_lt r
  have he := ex_le h1
  unfold placesR
  split
  · rename_i hx
    obtain ⟨j, hj⟩ : ∃ j, exR r = 1074 + j := ⟨exR r - 1074, by lia⟩
    rw [show exR r - 1074 = j by lia]
    have hv : 0 < whR r * 2 ^ j := Nat.mul_pos hw (Nat.two_pow_pos j)
    refine bg fun G' g' => ?_
    obtain ⟨d1, d2, d3⟩ := digLen hv
    refine g' ?_
    clear g' G'
    have hb : whR r * 2 ^ j < 10 ^ 310 := by
      have a1 : whR r * 2 ^ j < 2 ^ 53 * 2 ^ j := Nat.mul_lt_mul_of_pos_right hw2 (Nat.two_pow_pos j)
      have a2 : 2 ^ 53 * 2 ^ j ≤ 2 ^ 53 * 2 ^ 971 := Nat.mul_le_mul_left _ (Nat.pow_le_pow_right (by decide) (by lia))
      exact Nat.lt_of_lt_of_le a1 (Nat.le_trans a2 k4)
    have hl := natLen (k := 310) (by decide) hb
    have eu : units r = ONE * (whR r * 2 ^ j) := by
      show _ = 2 ^ 1074 * _
      rw [units_wh, hj, Nat.pow_add, Nat.mul_left_comm]
    generalize (natText (whR r * 2 ^ j)).length = L at d1 d2 d3 hl ⊢
    refine ⟨?_, by lia, by lia⟩
    have := pt_of (u := units r) (L := L) (s := 0) d3 (by rw [eu, Nat.pow_zero, Nat.mul_one]; exact Nat.mul_lt_mul_of_pos_left d2 (Nat.two_pow_pos 1074)) (by rw [eu, Nat.pow_zero, Nat.mul_one]; exact Nat.mul_le_mul_left _ d1)
    rw [show ((L : Int) - ((0 : Nat) : Int)) = L by lia] at this
    exact this
  · rename_i hx
    obtain ⟨j, hj⟩ : ∃ j, 1074 = exR r + j := ⟨1074 - exR r, by lia⟩
    rw [show 1074 - exR r = j by lia]
    have hp := Nat.two_pow_pos j
    have hv : 0 < whR r * 10 ^ 341 / 2 ^ j := by
      apply Nat.div_pos _ hp
      have a1 : 2 ^ j ≤ 2 ^ 1074 := Nat.pow_le_pow_right (by decide) (by lia)
      exact Nat.le_trans a1 (Nat.le_trans k3 (Nat.le_mul_of_pos_left _ hw))
    refine bg fun G' g' => ?_
    obtain ⟨d1, d2, d3⟩ := digLen hv
    refine g' ?_
    clear g' G'
    have hb : whR r * 10 ^ 341 / 2 ^ j < 10 ^ 357 := by
      refine Nat.lt_of_le_of_lt (Nat.div_le_self _ _) ?_
      have a1 : whR r * 10 ^ 341 < 2 ^ 53 * 10 ^ 341 := Nat.mul_lt_mul_of_pos_right hw2 (Nat.pow_pos (by decide))
      have a2 : 2 ^ 53 * 10 ^ 341 ≤ 10 ^ 16 * 10 ^ 341 := Nat.mul_le_mul_right _ k5
      rw [← Nat.pow_add] at a2
      exact Nat.lt_of_lt_of_le a1 a2
    have hl := natLen (k := 357) (by decide) hb
    have a := (Nat.div_lt_iff_lt_mul hp).mp d2
    have b := (Nat.le_div_iff_mul_le hp).mp d1
    generalize (natText (whR r * 10 ^ 341 / 2 ^ j)).length = L at d1 d2 d3 hl a b ⊢
    refine ⟨?_, by lia, by lia⟩
    have eo : ONE = 2 ^ exR r * 2 ^ j := by
      show 2 ^ 1074 = _
      rw [← Nat.pow_add, ← hj]
    have ev : units r * 10 ^ 341 = whR r * 10 ^ 341 * 2 ^ exR r := by rw [units_wh, Nat.mul_right_comm]
    refine pt_of (u := units r) (L := L) (s := 341) d3 ?_ ?_
    · rw [ev, eo]
      have := Nat.mul_lt_mul_of_pos_right a (Nat.two_pow_pos (exR r))
      refine Nat.lt_of_lt_of_le this (Nat.le_of_eq ?_)
      ac_rfl
    · rw [ev, eo]
      have := Nat.mul_le_mul_right (2 ^ exR r) b
      refine Nat.le_trans (Nat.le_of_eq ?_) this
      ac_rfl
theorem pick_none {num step below above : Nat} {ends : Bool} (hs : 0 < step) (h : pick num step below above ends = none) : below + above ≤ step := by
  unfold pick at h
  split at h
  · cases h
  · rename_i h1
    split at h
    · cases h
    · rename_i h2
      split at h
      · cases h
      · rename_i h3
        unfold loB at h2
        unfold hiB at h3
        simp only [Bool.or_eq_true, Bool.and_eq_true, decide_eq_true_eq] at h2 h3
        have hr := Nat.mod_lt num hs
        have hd := Nat.div_add_mod num step
        have e : num - num / step * step = num % step := by
          rw [Nat.mul_comm]
          (clear hr h3 h2 h h1 hs; omega)
        rw [e] at h2 h3
        lia
theorem pick_17 {r : Nat} (h0 : 0 < r) (h1 : r < INF) : pickK r (placesR r) 17 ≠ none := fun z => by
  refine bg fun G' g' => ?_
  obtain ⟨P, _, _⟩ := places_pt h0 h1
  refine g' ?_
  clear g' G'
  have M := meas (exR r) (placesR r - 17) 0
  unfold pickK at z
  have z1 := pick_none M.s z
  have eA : (beta r + 2) * unitR (exR r) (placesR r - 17) = beta r * unitR (exR r) (placesR r - 17) + 2 * unitR (exR r) (placesR r - 17) := Nat.add_mul _ _ _
  have z2 := (M.le (beta r + 2) 1).mp (by rw [eA, Nat.one_mul]; exact z1)
  rw [Nat.one_mul] at z2
  -- the point
  have hl := P.lo
  have t1 : ONE * 10 ^ (placesR r - 17 + ((0 : Nat) : Int)).toNat * 10 ^ 16 ≤ units r * 10 ^ (-(placesR r - 17 + ((0 : Nat) : Int))).toNat := by
    refine bg fun G' g' => ?_
    obtain ⟨k, hk, e1, e2⟩ := cancel10 (units r) ONE (placesR r - 1).toNat (-(placesR r - 1)).toNat (placesR r - 1) (by lia)
    refine g' ?_
    clear g' G'
    generalize placesR r = p at hl ⊢
    have x1 : 10 ^ (p - 17 + ((0 : Nat) : Int)).toNat * 10 ^ 16 * 10 ^ (-(p - 1)).toNat = 10 ^ (p - 1).toNat * 10 ^ (-(p - 17 + ((0 : Nat) : Int))).toNat := by
      rw [← Nat.pow_add, ← Nat.pow_add, ← Nat.pow_add]
      congr 1
      lia
    have hp : 0 < 10 ^ (-(p - 1)).toNat := Nat.pow_pos (by decide)
    apply Nat.le_of_mul_le_mul_right _ hp
    calc ONE * 10 ^ (p - 17 + ((0 : Nat) : Int)).toNat * 10 ^ 16 * 10 ^ (-(p - 1)).toNat = ONE * (10 ^ (p - 17 + ((0 : Nat) : Int)).toNat * 10 ^ 16 * 10 ^ (-(p - 1)).toNat) := by
          generalize ONE = O
          ac_rfl
      _ = ONE * 10 ^ (p - 1).toNat * 10 ^ (-(p - 17 + ((0 : Nat) : Int))).toNat := by rw [x1, Nat.mul_assoc]
      _ ≤ units r * 10 ^ (-(p - 1)).toNat * 10 ^ (-(p - 17 + ((0 : Nat) : Int))).toNat := Nat.mul_le_mul_right _ hl
      _ = _ := Nat.mul_right_comm _ _ _
  generalize ONE * 10 ^ (placesR r - 17 + ((0 : Nat) : Int)).toNat = x0 at z2 t1
  rw [units_wh, Nat.mul_assoc] at t1
  have hU := M.u
  generalize 2 ^ exR r * 10 ^ (-(placesR r - 17 + ((0 : Nat) : Int))).toNat = U at z2 t1 hU
  have z3 : (beta r + 2) * U * 10 ^ 16 ≤ 4 * (whR r * U) := by
    have y1 := Nat.mul_le_mul_right (10 ^ 16) z2
    have y2 := Nat.mul_le_mul_left 4 t1
    rw [Nat.mul_assoc 4 x0] at y1
    exact Nat.le_trans y1 y2
  have z4 : (beta r + 2) * 10 ^ 16 ≤ 4 * whR r := by
    apply Nat.le_of_mul_le_mul_right _ hU
    calc (beta r + 2) * 10 ^ 16 * U = (beta r + 2) * U * 10 ^ 16 := Nat.mul_right_comm _ _ _
      _ ≤ 4 * (whR r * U) := z3
      _ = _ := by rw [Nat.mul_assoc]
  have hw := wh_lt r
  rcases beta_or r with ⟨b1, b2⟩ | b
  · rw [b1, b2] at z4
    exact absurd z4 (by decide)
  · rw [b] at z4
    lia
theorem findSome_first {α : Type} (f : Nat → Option α) {n k : Nat} {y : α} (hk : k < n) (h : f k = some y) (hj : ∀ j, j < k → f j = none) : (List.range n).findSome? f = some y := by
  induction n with
  | zero => lia
  | succ n ih =>
    rw [List.range_succ, List.findSome?_append]
    by_cases hkn : k < n
    · rw [ih hkn]
      rfl
    · have e : k = n := by lia
      subst e
      have : (List.range k).findSome? f = none := by
        rw [List.findSome?_eq_none_iff]
        intro j hj'
        exact hj j (List.mem_range.mp hj')
      rw [this]
      simp [h]
theorem short_m (o : Option (Nat × Int)) : Sh27.shortest.match_1 (fun _ => Nat × Int) o (fun r => trim 20 r.1 r.2) (fun _ => (0, 0)) = o.elim (0, 0) fun r => trim 20 r.1 r.2 := by
  cases o <;> rfl
theorem short_fun : shortest = fun b => ((List.range 17).findSome? fun (k : Nat) => withDigits b (units b) (pointOf (units b)) (k + 1)).elim (0, 0) fun r => trim 20 r.1 r.2 := by
  delta shortest
  funext b
  exact short_m _
theorem short_e {r : Nat} {p : Int} {y : Nat × Int} (hp : pointOf (units r) = p) (h : ((List.range 17).findSome? fun (k : Nat) => withDigits r (units r) p (k + 1)) = some y) :
    (((List.range 17).findSome? fun (k : Nat) => withDigits r (units r) (pointOf (units r)) (k + 1)).elim (0, 0) fun r => trim 20 r.1 r.2) = trim 20 y.1 y.2 := by
  rw [hp, h]
  rfl
theorem short_b {r : Nat} {k c : Nat} (h0 : 0 < r) (h1 : r < INF) (h : ((List.range 17).findSome? fun (k : Nat) => withDigits r (units r) (placesR r) (k + 1)) = some (c, placesR r - (k : Int))) : shortest r = trim 20 c (placesR r - (k : Int)) :=
  (congrFun short_fun r).trans (short_e (point_eq (places_pt h0 h1).1 (places_pt h0 h1).2.1 (by have := (places_pt h0 h1).2.2; omega)) h)
theorem with_some {r : Nat} (h0 : 0 < r) (p : Int) {k c : Nat} (hk : k ≤ 17) (h : pickK r p k = some c) : withDigits r (units r) p k = some (c, p - (k : Int)) := by
  rw [with_eq h0 _ hk, h, Option.map_some]
theorem with_none {r : Nat} (h0 : 0 < r) (p : Int) {k : Nat} (hk : k ≤ 17) (h : pickK r p k = none) : withDigits r (units r) p k = none := by
  rw [with_eq h0 _ hk, h, Option.map_none]
theorem short_of {r k c : Nat} (h0 : 0 < r) (h1 : r < INF) (hk2 : k + 1 ≤ 17) (h : pickK r (placesR r) (k + 1) = some c) (hj : ∀ j, j < k → pickK r (placesR r) (j + 1) = none) :
    shortest r = trim 20 c (placesR r - ((k + 1 : Nat) : Int)) :=
  short_b h0 h1 (findSome_first (fun (i : Nat) => withDigits r (units r) (placesR r) (i + 1)) hk2 (with_some h0 _ hk2 h) (fun j hj' => with_none h0 _ (by lia) (hj j hj')))
theorem pick_in {r k c : Nat} (h0 : 0 < r) (h1 : r < INF) (hk2 : k ≤ 17) (h : pickK r (placesR r) k = some c) : 0 < c ∧ c ≤ 10 ^ k := by
  refine bg fun G' g' => ?_
  obtain ⟨P, p1, p2⟩ := places_pt h0 h1
  refine g' ?_
  clear g' G'
  have M := meas (exR r) (placesR r - 17) (17 - k)
  have hw := wh_pos h0
  have hb : beta r ≤ 2 := by rcases beta_or r with ⟨z, _⟩ | z <;> omega
  have lo0 : loB (4 * whR r * unitR (exR r) (placesR r - 17)) 0 (oneR (exR r) (placesR r - 17) * 10 ^ (17 - k)) (beta r * unitR (exR r) (placesR r - 17)) (decide (whR r % 2 = 0)) = false := by
    unfold loB
    have hA := M.a
    have e1 : beta r * unitR (exR r) (placesR r - 17) ≤ 2 * unitR (exR r) (placesR r - 17) := Nat.mul_le_mul_right _ hb
    have e2 : 4 * unitR (exR r) (placesR r - 17) ≤ 4 * whR r * unitR (exR r) (placesR r - 17) := Nat.mul_le_mul_right _ (by lia)
    simp only [Nat.zero_mul, Nat.sub_zero, Bool.or_eq_false_iff, Bool.and_eq_false_iff, decide_eq_false_iff_not]
    exact ⟨by (clear hA hb hw p2 p1 h hk2 h1 h0; omega), .inr (by (clear hb hw p2 p1 h hk2 h1 h0; omega))⟩
  have hq : 4 * whR r * unitR (exR r) (placesR r - 17) / (oneR (exR r) (placesR r - 17) * 10 ^ (17 - k)) < 10 ^ k := by
    rw [Nat.div_lt_iff_lt_mul M.s]
    have hh := P.hi
    have ex : placesR r - 17 + ((17 - k : Nat) : Int) = placesR r - (k : Int) := by omega
    have t1 : units r * 10 ^ (-(placesR r - (k : Int))).toNat < 10 ^ k * (ONE * 10 ^ (placesR r - (k : Int)).toNat) := by
      generalize placesR r = p at hh ⊢
      have hp : 0 < 10 ^ (-p).toNat := Nat.pow_pos (by decide)
      have hq : 0 < 10 ^ (-(p - (k : Int))).toNat := Nat.pow_pos (by decide)
      have x1 : 10 ^ k * 10 ^ (p - (k : Int)).toNat * 10 ^ (-p).toNat = 10 ^ p.toNat * 10 ^ (-(p - (k : Int))).toNat := by
        rw [← Nat.pow_add, ← Nat.pow_add, ← Nat.pow_add]
        congr 1
        lia
      apply Nat.lt_of_mul_lt_mul_right (a := 10 ^ (-p).toNat)
      calc units r * 10 ^ (-(p - (k : Int))).toNat * 10 ^ (-p).toNat = units r * 10 ^ (-p).toNat * 10 ^ (-(p - (k : Int))).toNat := Nat.mul_right_comm _ _ _
        _ < ONE * 10 ^ p.toNat * 10 ^ (-(p - (k : Int))).toNat := Nat.mul_lt_mul_of_pos_right hh hq
        _ = ONE * (10 ^ k * 10 ^ (p - (k : Int)).toNat * 10 ^ (-p).toNat) := by rw [x1, Nat.mul_assoc]
        _ = _ := by
          generalize ONE = O
          ac_rfl
    rw [← ex] at t1
    have t2 : ¬ 10 ^ k * (4 * (ONE * 10 ^ (placesR r - 17 + ((17 - k : Nat) : Int)).toNat)) ≤ 4 * whR r * (2 ^ exR r * 10 ^ (-(placesR r - 17 + ((17 - k : Nat) : Int))).toNat) := by
      have e1 : 4 * whR r * (2 ^ exR r * 10 ^ (-(placesR r - 17 + ((17 - k : Nat) : Int))).toNat) = 4 * (units r * 10 ^ (-(placesR r - 17 + ((17 - k : Nat) : Int))).toNat) := by
        rw [units_wh]
        ac_rfl
      have e2 : 10 ^ k * (4 * (ONE * 10 ^ (placesR r - 17 + ((17 - k : Nat) : Int)).toNat)) = 4 * (10 ^ k * (ONE * 10 ^ (placesR r - 17 + ((17 - k : Nat) : Int)).toNat)) := Nat.mul_left_comm _ _ _
      rw [e1, e2]
      (clear e2 e1 ex hh lo0 hb hw p2 p1 h hk2 h1 h0; omega)
    have := (not_congr (M.le' (4 * whR r) (10 ^ k))).mpr t2
    (clear t2 t1 ex hh lo0 hb hw p2 p1 h hk2 h1 h0; omega)
  unfold pickK pick at h
  generalize 4 * whR r * unitR (exR r) (placesR r - 17) / (oneR (exR r) (placesR r - 17) * 10 ^ (17 - k)) = q at h hq
  have hq0 : loB (4 * whR r * unitR (exR r) (placesR r - 17)) q (oneR (exR r) (placesR r - 17) * 10 ^ (17 - k)) (beta r * unitR (exR r) (placesR r - 17)) (decide (whR r % 2 = 0)) = true → 0 < q := fun z => by
    rcases Nat.eq_zero_or_pos q with y | y
    · rw [y, lo0] at z
      cases z
    · exact y
  split at h
  · rename_i hh
    have := hq0 hh.1
    injection h with h
    split at h <;> omega
  · split at h
    · rename_i hh
      have := hq0 hh
      injection h with h
      omega
    · split at h
      · injection h with h
        lia
      · cases h
end DM

set_option Elab.async false
set_option linter.all false
set_option exponentiation.threshold 3000
namespace DM
open Sh27
def rs (l : List Nat) : List Nat := (l.reverse.dropWhile fun c => c == 48).reverse
theorem rs_zero (l : List Nat) : rs (l ++ [48]) = rs l := by
  unfold rs
  rw [List.reverse_append]
  simp
theorem rs_no {d : Nat} (l : List Nat) (h : d ≠ 48) : rs (l ++ [d]) = l ++ [d] := by
  unfold rs
  rw [List.reverse_append]
  simp [h]
theorem digit_chr : ∀ d : Nat, d < 10 → (Nat.digitChar d).toNat = 48 + d := by decide
theorem nt_small {n : Nat} (h : n < 10) : natText n = [48 + n] := by
  unfold natText
  rw [Nat.toDigits_of_lt_base h, List.map_singleton, digit_chr n h]
theorem nt_step {n : Nat} (h : 10 ≤ n) : natText n = natText (n / 10) ++ [48 + n % 10] := by
  unfold natText
  rw [Nat.toDigits_of_base_le (by decide) h, List.map_append, List.map_singleton, digit_chr _ (Nat.mod_lt _ (by decide))]
theorem trim_text : ∀ (n c : Nat) (x : Int), 0 < c → c < 10 ^ n → natText (trim n c x).1 = rs (natText c) ∧ ((natText (trim n c x).1).length : Int) + (trim n c x).2 = ((natText c).length : Int) + x
  | 0, c, x, h0, h => by
    have : c < 1 := h
    omega
  | n + 1, c, x, h0, h => by
    unfold trim
    by_cases hz : c % 10 = 0
    · rw [if_pos ⟨hz, by lia⟩]
      have h10 : 10 ≤ c := by lia
      have hs := nt_step h10
      rw [hz] at hs
      obtain ⟨a, b⟩ := trim_text n (c / 10) (x + 1) (by lia) (by
        rw [Nat.pow_succ] at h
        lia)
      refine ⟨by rw [a, hs, rs_zero], ?_⟩
      rw [b, hs, List.length_append]
      simp only [List.length_singleton]
      lia
    · rw [if_neg (fun z => hz z.1)]
      refine ⟨?_, rfl⟩
      rcases Nat.lt_or_ge c 10 with h1 | h1
      · rw [nt_small h1]
        exact (rs_no [] (by lia)).symm
      · rw [nt_step h1]
        exact (rs_no _ (by lia)).symm
def writ (d : List Nat) (p : Int) : List Nat :=
  if (d.length : Int) ≤ p ∧ p ≤ 17 then d ++ List.replicate (p - (d.length : Int)).toNat 48
  else if -6 < p ∧ p ≤ 0 then [48, 46] ++ (List.replicate (-p).toNat 48 ++ d)
  else if 0 < p ∧ p < (d.length : Int) then d.take p.toNat ++ (46 :: d.drop p.toNat)
  else if d.length = 1 then d ++ (101 :: signed (p - 1)) else d.take 1 ++ (46 :: (d.drop 1 ++ (101 :: signed (p - 1))))
theorem placed_eq (d : List Nat) (e : Int) (h : 0 < d.length) : placed d e = writ d ((d.length : Int) + e) := by
  unfold placed writ zeros
  try dsimp only
  obtain ⟨p, hp⟩ : ∃ p : Int, (d.length : Int) + e = p := ⟨_, rfl⟩
  obtain rfl : e = p - (d.length : Int) := by lia
  rw [hp]
  by_cases h1 : 0 ≤ p - (d.length : Int) ∧ p ≤ 17
  · rw [if_pos h1, if_pos (show (d.length : Int) ≤ p ∧ p ≤ 17 by lia)]
  · rw [if_neg h1, if_neg (show ¬ ((d.length : Int) ≤ p ∧ p ≤ 17) by lia)]
    by_cases h2 : -6 < p ∧ p ≤ 0
    · rw [if_pos h2, if_pos h2]
      rfl
    · rw [if_neg h2, if_neg h2]
      by_cases h3 : 0 < p ∧ p < (d.length : Int)
      · rw [if_pos h3, if_pos h3]
      · rw [if_neg h3, if_neg h3]
        by_cases h4 : d.length = 1
        · rw [if_pos h4, if_pos h4, List.take_of_length_le (by lia)]
          rfl
        · rw [if_neg h4, if_neg h4]
          rfl
theorem nt_pos (n : Nat) : 0 < (natText n).length := by
  have e : (natText n).length = (Nat.toDigits 10 n).length := by simp [natText]
  rw [e]
  exact Nat.length_toDigits_pos
theorem rs_len {c : Nat} (h : 0 < c) : 0 < (rs (natText c)).length ∧ (rs (natText c)).length ≤ (natText c).length := by
  refine ⟨?_, ?_⟩
  · have hc : c < 10 ^ (natText c).length := (digLen h).2.1
    obtain ⟨a, _⟩ := trim_text _ c 0 h hc
    rw [← a]
    exact nt_pos _
  · unfold rs
    rw [List.length_reverse]
    have : ∀ l : List Nat, (l.dropWhile fun c => c == 48).length ≤ l.length := fun l => by
      induction l with
      | nil => exact Nat.le_refl _
      | cons a r ih =>
        rw [List.dropWhile_cons]
        split
        · simp only [List.length_cons]; lia
        · exact Nat.le_refl _
    have := this (natText c).reverse
    rw [List.length_reverse] at this
    exact this
theorem dec_fun : decimal = fun b => if b % SIGN = 0 then [48] else (if SIGN ≤ b then [45] else []) ++ placed (natText (shortest (b % SIGN)).1) (shortest (b % SIGN)).2 := by
  delta decimal
  rfl
theorem k6 : (10 : Nat) ^ 17 < 10 ^ 20 := by decide
theorem dec_eq {b k c : Nat} (h0 : 0 < b % SIGN) (h1 : b % SIGN < INF) (hk : k + 1 ≤ 17) (h : pickK (b % SIGN) (placesR (b % SIGN)) (k + 1) = some c) (hj : ∀ j, j < k → pickK (b % SIGN) (placesR (b % SIGN)) (j + 1) = none) :
    decimal b = (if SIGN ≤ b then [45] else []) ++ writ (rs (natText c)) (((natText c).length : Int) + (placesR (b % SIGN) - ((k + 1 : Nat) : Int))) := by
  have hs := short_of h0 h1 hk h hj
  obtain ⟨c0, c1⟩ := pick_in h0 h1 hk h
  have c2 : c < 10 ^ 20 := by
    have : 10 ^ (k + 1) ≤ 10 ^ 17 := Nat.pow_le_pow_right (by decide) hk
    have := k6
    lia
  obtain ⟨t1, t2⟩ := trim_text 20 c (placesR (b % SIGN) - ((k + 1 : Nat) : Int)) c0 c2
  have hd := congrFun dec_fun b
  rw [hd]
  rw [if_neg (by lia), hs, placed_eq _ _ (nt_pos _), t2, t1]
theorem dec_zero {b : Nat} (h : b % SIGN = 0) : decimal b = [48] := by
  have hd := congrFun dec_fun b
  rw [hd]
  rw [if_pos h]
theorem signed_len {z : Int} (h1 : -9999 ≤ z) (h2 : z ≤ 9999) : (signed z).length ≤ 5 := by
  have := natLen (c := z.natAbs) (k := 4) (by decide) (by omega)
  unfold signed
  split
  · simp only [List.length_cons]; lia
  · lia
theorem writ_len {d : List Nat} {p : Int} (h1 : d.length ≤ 18) (h2 : -9000 ≤ p) (h3 : p ≤ 9000) : (writ d p).length ≤ 40 := by
  have := signed_len (z := p - 1) (by lia) (by lia)
  unfold writ
  split
  · rw [List.length_append, List.length_replicate]; lia
  · split
    · simp only [List.length_append, List.length_replicate, List.length_cons, List.length_nil]; lia
    · split
      · simp only [List.length_append, List.length_take, List.length_drop, List.length_cons]; lia
      · split
        · simp only [List.length_append, List.length_cons]; omega
        · simp only [List.length_append, List.length_take, List.length_drop, List.length_cons]; omega
end DM

set_option Elab.async false
set_option maxRecDepth 100000
set_option linter.all false
namespace L2
open PySem PySem.Spec PyProof.Rows
theorem rep_sign (c n : Nat) : (List.replicate n (#[c] : Array Nat)).foldl (· ++ ·) #[] = (List.replicate n c).toArray := by
  have key : ∀ (n : Nat) (a : Array Nat), (List.replicate n (#[c] : Array Nat)).foldl (· ++ ·) a = a ++ (List.replicate n c).toArray := fun n => by
    induction n with
    | zero => intro a; simp
    | succ n ih =>
      intro a
      rw [List.replicate_succ, List.foldl_cons, ih, List.replicate_succ, ← Array.toList_inj]
      simp
  rw [key]
  simp
theorem op_rep_str {X : Cx} : OpR X (binaryOp .Mult) (fun x y H Q => ∃ (c : Nat) (n : Int), x = .str ⟨#[c]⟩ ∧ y = .int n ∧ -10000 ≤ n ∧ n ≤ 10000 ∧ Q (.str ⟨(List.replicate n.toNat c).toArray⟩) H) := by
  intro pins s σ H x y v u Q I rx ry h
  refine bg fun G' g' => ?_
  obtain ⟨c, n, rfl, rfl, h1, h2, q⟩ := h
  refine g' ?_
  clear g' G'
  obtain ⟨t, rfl⟩ := rx
  obtain ⟨t', rfl⟩ := ry
  have p63 : (2 : Int) ^ 63 = 9223372036854775808 := by decide
  have hl1 : (⟨#[c]⟩ : Str).length = 1 := rfl
  refine PySem.P.mul_str ?_ ?_ ?_ ?_
  · rw [p63, decide_eq_false (by omega), decide_eq_false (by omega)]
    rfl
  · intro z _
    rw [hl1, p63]
    have : (1 : Int) ≤ (9223372036854775808 - 1) / n := (Int.le_ediv_iff_mul_le (by omega)).mpr (by omega)
    show ¬ ((1 : Nat) : Int) > _
    (clear z hl1 p63 h2 h1; omega)
  · intro z _
    rw [hl1, Nat.one_mul]
    exact notLong (Nat.le_trans (show n.toNat ≤ 10000 by omega) (by decide))
  · by_cases z : n < 1
    · rw [if_pos z]
      have e : (⟨(List.replicate n.toNat c).toArray⟩ : Str) = Str.empty := by rw [show n.toNat = 0 by omega]; rfl
      rw [e] at q
      exact ⟨by decide, .str _, H, I.tok _, ⟨_, rfl⟩, q⟩
    · rw [if_neg z]
      by_cases z1 : n = 1
      · subst z1
        rw [if_pos (by rfl)]
        exact ⟨.str ⟨#[c]⟩, H, I, ⟨t, rfl⟩, q⟩
      · rw [if_neg (by rw [hl1]; simp [z1])]
        have e := rep_sign c n.toNat
        refine ⟨?_, .str _, H, I.tok _, ⟨_, rfl⟩, ?_⟩
        · show ((List.replicate n.toNat (#[c] : Array Nat)).foldl (· ++ ·) #[]).size ≤ sizeLine
          rw [e, List.size_toArray, List.length_replicate]
          exact Nat.le_trans (show n.toNat ≤ 10000 by omega) (by decide)
        · show Q (.str ⟨(List.replicate n.toNat (#[c] : Array Nat)).foldl (· ++ ·) #[]⟩) H
          rw [e]
          exact q
end L2
namespace Cm
open PySem L2 TL
theorem tl_rstrip0 (x : Str) : tl (Txt.rstripChars x (Str.ofString "0")) = DM.rs (tl x) := by
  have hg : ((Str.ofString "0").cps.contains : Nat → Bool) = fun c => c == 48 := by
    funext c
    have : (Str.ofString "0").cps = #[48] := by decide +kernel
    rw [this]
    rw [Bool.eq_iff_iff]
    simp
  have hr : DM.rs (tl x) = (tl x).take ((tl x).length - ((tl x).reverse.takeWhile fun c => c == 48).length) := by
    unfold DM.rs
    rw [← DM.tw_drop, List.drop_reverse, List.reverse_reverse]
  have e : Txt.rstripChars x (Str.ofString "0") = Builtin.Str.strSub x 0 (x.length - ((tl x).reverse.takeWhile fun c => c == 48).length) := by
    unfold Txt.rstripChars Txt.stripBy
    rw [hg]
    split
    · rename_i h
      unfold stripSame stripLo stripHi at h
      simp only [Bool.false_eq_true, if_false, if_true, List.drop_zero, Bool.and_eq_true, beq_iff_eq] at h
      have h2 : x.length - ((tl x).reverse.takeWhile fun c => c == 48).length = x.length := h.2
      rw [h2]
      exact (PyProof.Rows.strSub_whole x).symm
    · unfold stripped stripLo stripHi
      simp only [Bool.false_eq_true, if_false, if_true, List.drop_zero]
  rw [e, tl_strSub, hr, List.drop_zero, Nat.sub_zero, len_tl]
inductive spExp (vs : List V) (H : Hp) (Q : VK) (E_ : XK) : Prop
  | mk (b : Nat) (c_1 : vs = [.int (b : Nat)]) (c_2 : Q (.int ((b / 2 ^ 52 % 2048 : Nat) : Int)) H)
inductive spBelow (vs : List V) (H : Hp) (Q : VK) (E_ : XK) : Prop
  | mk (b : Nat) (c_1 : vs = [.int (b : Nat)]) (c_2 : Q (.bl (decide (Sh27.SIGN < b))) H)
inductive spWhole (vs : List V) (H : Hp) (Q : VK) (E_ : XK) : Prop
  | mk (b : Nat) (c_1 : vs = [.int (b : Nat)]) (c_2 : Q (.int (DM.whR (b % Sh27.SIGN) : Nat)) H)
inductive spPowOf (vs : List V) (H : Hp) (Q : VK) (E_ : XK) : Prop
  | mk (b : Nat) (c_1 : vs = [.int (b : Nat)]) (c_2 : Q (.int ((DM.exR (b % Sh27.SIGN) : Int) - 1074)) H)
inductive spPlaces (vs : List V) (H : Hp) (Q : VK) (E_ : XK) : Prop
  | mk (r : Nat) (c_1 : vs = [.int (DM.whR r : Nat), .int ((DM.exR r : Int) - 1074)]) (c_2 : 0 < r) (c_3 : r < Sh27.INF) (c_4 : Q (.int (DM.placesR r)) H)
def pickV (o : Option Nat) : V := match o with
  | some n => .int (n : Nat)
  | none => .non
inductive spPicked (vs : List V) (H : Hp) (Q : VK) (E_ : XK) : Prop
  | mk (n st be ab : Nat) (e : Bool) (c_1 : vs = [.int (n : Nat), .int (st : Nat), .int (be : Nat), .int (ab : Nat), .bl e]) (c_2 : 0 < st) (c_3 : n < 2 ^ 8000) (c_4 : st < 2 ^ 8000) (c_5 : Q (pickV (DM.pick n st be ab e)) H)
inductive spShort (vs : List V) (H : Hp) (Q : VK) (E_ : XK) : Prop
  | mk (r : Nat) (c_1 : vs = [.int (DM.whR r : Nat), .int ((DM.exR r : Int) - 1074)]) (c_2 : 0 < r) (c_3 : r < Sh27.INF) (c_4 : ∀ (k n : Nat), k + 1 ≤ 17 → DM.pickK r (DM.placesR r) (k + 1) = some n → (∀ j, j < k → DM.pickK r (DM.placesR r) (j + 1) = none) → ∀ (D : Str) (l : Addr) (H' : Hp), tl D = DM.rs (Sh27.natText n) → H' l = some (.tup [.str D, .int (((Sh27.natText n).length : Int) + (DM.placesR r - ((k + 1 : Nat) : Int)))]) → Same H H' → Q (.ref l) H')
inductive spWritten (vs : List V) (H : Hp) (Q : VK) (E_ : XK) : Prop
  | mk (D : Str) (ds : List Nat) (p : Int) (c_1 : vs = [.str D, .int p]) (c_2 : tl D = ds) (c_3 : 0 < ds.length) (c_4 : ds.length ≤ 18) (c_5 : -9000 ≤ p) (c_6 : p ≤ 9000) (c_7 : ∀ z : Str, tl z = DM.writ ds p → Q (.str z) H)
inductive spTellD (vs : List V) (H : Hp) (Q : VK) (E_ : XK) : Prop
  | mk (b : Nat) (c_1 : vs = [.int (b : Nat)]) (c_2 : b < 2 ^ 64) (c_3 : b % Sh27.SIGN < Sh27.INF) (c_4 : (Fresh H (nI (Sh27.decimal b)) Q))
theorem dec_len {b : Nat} (h : b % Sh27.SIGN < Sh27.INF) : (Sh27.decimal b).length ≤ 41 := by
  rcases Nat.eq_zero_or_pos (b % Sh27.SIGN) with z | z
  · rw [DM.dec_zero z]
    decide
  · refine bg fun G' g' => ?_
    obtain ⟨P, p1, p2⟩ := DM.places_pt z h
    refine g' ?_
    clear g' G'
    -- the first that is found
    have ex : ∃ k, k + 1 ≤ 17 ∧ DM.pickK (b % Sh27.SIGN) (DM.placesR (b % Sh27.SIGN)) (k + 1) ≠ none ∧ ∀ j, j < k → DM.pickK (b % Sh27.SIGN) (DM.placesR (b % Sh27.SIGN)) (j + 1) = none := by
      have : ∀ n, n ≤ 17 → (∀ j, j < n → DM.pickK (b % Sh27.SIGN) (DM.placesR (b % Sh27.SIGN)) (j + 1) = none) ∨ ∃ k, k + 1 ≤ 17 ∧ DM.pickK (b % Sh27.SIGN) (DM.placesR (b % Sh27.SIGN)) (k + 1) ≠ none ∧ ∀ j, j < k → DM.pickK (b % Sh27.SIGN) (DM.placesR (b % Sh27.SIGN)) (j + 1) = none := fun n => by
        induction n with
        | zero => exact fun _ => .inl fun j hj => by (clear p2 p1 z h; omega)
        | succ n ih =>
          intro hn
          rcases ih (by (clear ih p2 p1 z h; omega)) with g | g
          · by_cases hz : DM.pickK (b % Sh27.SIGN) (DM.placesR (b % Sh27.SIGN)) (n + 1) = none
            · left
              intro j hj
              rcases Nat.lt_or_ge j n with y | y
              · exact g j y
              · rw [show j = n by (clear hz hn ih p2 p1 z h; omega)]
                exact hz
            · exact .inr ⟨n, by omega, hz, g⟩
          · exact .inr g
      rcases this 17 (Nat.le_refl _) with g | g
      · exact absurd (g 16 (by decide)) (DM.pick_17 z h)
      · exact g
    refine bg fun G' g' => ?_
    obtain ⟨k, hk, h1, h2⟩ := ex
    refine g' ?_
    clear g' G'
    obtain ⟨n, hn⟩ := Option.ne_none_iff_exists'.mp h1
    rw [DM.dec_eq z h hk hn h2, List.length_append]
    obtain ⟨n0, n1⟩ := DM.pick_in z h hk hn
    have n2 : n < 10 ^ 18 := by
      have a1 : 10 ^ (k + 1) ≤ 10 ^ 17 := Nat.pow_le_pow_right (by decide) hk
      have a2 : (10 : Nat) ^ 17 < 10 ^ 18 := by decide
      (clear a2 n0 hn h1 hk p2 p1 z h; omega)
    have l1 := DM.natLen (k := 18) (by decide) n2
    have l2 := (DM.rs_len n0).2
    have l3 := DM.writ_len (d := DM.rs (Sh27.natText n)) (p := ((Sh27.natText n).length : Int) + (DM.placesR (b % Sh27.SIGN) - ((k + 1 : Nat) : Int))) (by (clear n2 n1 n0 hn h1 hk p2 p1 z h; omega)) (by (clear l2 n2 n1 n0 hn h1 z h; omega)) (by (clear l2 n2 n1 n0 hn h1 z h; omega))
    split
    · simp only [List.length_singleton]; (clear l2 l1 n2 n1 n0 hn h1 hk p2 p1 z h; omega)
    · simp only [List.length_nil]; (clear l2 l1 n2 n1 n0 hn h1 hk p2 p1 z h; omega)
end Cm
namespace Cm
open PySem L2 TL
theorem tl_cut_to (z : Str) (n : Nat) : tl (cutS z none (some ((n : Nat) : Int))) = (tl z).take n := by
  unfold cutS
  rw [HT.sIx_none, HT.sIx_nat]
  show ((tl z).drop 0).take _ = _
  rw [List.drop_zero, Nat.sub_zero, len_tl]
  rcases Nat.le_total n (tl z).length with h | h
  · rw [Nat.min_eq_left h]
  · rw [Nat.min_eq_right h, List.take_of_length_le (Nat.le_refl _), List.take_of_length_le h]
theorem tl_cut_from (z : Str) (n : Nat) : tl (cutS z (some ((n : Nat) : Int)) none) = (tl z).drop n := by
  unfold cutS
  rw [HT.sIx_none, HT.sIx_nat]
  show ((tl z).drop _).take _ = _
  rw [len_tl]
  rcases Nat.le_total n (tl z).length with h | h
  · rw [Nat.min_eq_left h, List.take_of_length_le (by rw [List.length_drop]; omega)]
  · rw [Nat.min_eq_right h, List.drop_of_length_le (Nat.le_refl _), List.drop_of_length_le h, List.take_nil]
theorem tl_rep (n : Nat) (c : Nat) : tl ⟨(List.replicate n c).toArray⟩ = List.replicate n c := rfl
theorem tl_signed (z : Int) : tl (Str.ofString (toString z)) = Sh27.signed z := by
  unfold Sh27.signed
  match z with
  | .ofNat n =>
    rw [if_neg (by show ¬ ((n : Nat) : Int) < 0; omega)]
    exact tl_num n
  | .negSucc n =>
    rw [if_pos (Int.negSucc_lt_zero n)]
    have e : toString (Int.negSucc n) = "-" ++ toString (n + 1) := rfl
    rw [e, tl_ofString, String.toList_append, List.map_append]
    have e2 : tl (Str.ofString (toString ((n + 1 : Nat) : Int))) = Sh27.natText (n + 1) := tl_num (n + 1)
    rw [tl_ofString] at e2
    have e3 : toString ((n + 1 : Nat) : Int) = toString (n + 1) := rfl
    rw [e3] at e2
    rw [e2]
    rfl
end Cm

set_option Elab.async false
set_option maxRecDepth 100000
set_option linter.all false
namespace L2
open PySem PySem.Spec PyProof.Rows
def RdK (K : PySem.W.Frag) (H : Hp) (a : Addr) (xs : List V) : Prop := Rd H a (.lst xs) ∨ ∃ (its : List Value) (n : Nat), K.lookup a = some { cls := .type "list", data := .seq its.toArray n } ∧ xs.length ≤ sizeLine ∧ Vals xs its
theorem RdK.of {K : PySem.W.Frag} {H : Hp} {a : Addr} {xs : List V} (h : H a = some (.lst xs)) : RdK K H a xs := .inl (.inl h)
theorem RdK.sq {K : PySem.W.Frag} {H : Hp} {a : Addr} {xs : List V} (h : RdK K H a xs) : SqL K H a xs := by
  rcases h with h | ⟨its, n, hk, hl, hv⟩
  · exact .inl h
  · exact .inr ⟨_, its.toArray, n, hk, rfl, rfl, rfl, by rw [List.size_toArray, ← hv.length]; exact hl, by simpa using hv⟩
theorem RdK.same {K : PySem.W.Frag} {H H' : Hp} {a : Addr} {xs : List V} (h : RdK K H a xs) (s : Same H H') : RdK K H' a xs := by
  rcases h with (h | ⟨o, h⟩) | h
  · exact .inl (.inl (s _ _ h))
  · exact .inl (.inr ⟨o, s _ _ h⟩)
  · exact .inr h
section
variable {X : Cx}
theorem Inv.rdK {pins : List (Addr × Obj)} {σ : St} {H : Hp} {s : Shared} {a : Addr} {xs : List V} (I : Inv X pins σ H s) (h : RdK X.K H a xs) : xs.length ≤ sizeLine ∧ ∃ (its : List Value) (n : Nat), Vals xs its ∧ xs.length = its.length ∧ s.heap.get? a = some { cls := .type "list", data := .seq its.toArray n } := by
  rcases h with h | ⟨its, n, hk, hl, hv⟩
  · refine bg fun G' g' => ?_
    obtain ⟨z, its, n, r, e⟩ := h.ok I.hok
    refine g' ?_
    clear g' G'
    exact ⟨z, its, n, r, r.length, e⟩
  · exact ⟨hl, its, n, hv, hv.length, I.kIn a _ hk⟩
inductive rCatR (K : PySem.W.Frag) (x : V) (y : V) (H : Hp) (Q : VK) : Prop
  | mk (l : _) (b : _) (xs : _) (zs : _) (c_1 : x = .ref l) (c_2 : y = .ref b) (c_3 : RdK K H l xs) (c_4 : RdK K H b zs) (c_5 : xs.length + zs.length ≤ sizeLine) (c_6 : ∀ p, H p = none → Q (.ref p) (upd H p (.lst (xs ++ zs))))
theorem op_catR : OpR X (binaryOp .Add) (rCatR X.K) := by
  intro pins s σ H x y v u Q I rx ry h
  refine bg fun G' g' => ?_
  obtain ⟨l, b, xs, zs, rfl, rfl, hH, hB, hz, q⟩ := h
  refine g' ?_
  clear g' G'
  cases rx
  cases ry
  refine bg fun G' g' => ?_
  obtain ⟨z, its, n, r, hl, e⟩ := I.rdK hH
  refine g' ?_
  clear g' G'
  refine bg fun G' g' => ?_
  obtain ⟨z2, its2, n2, r2, hl2, e2⟩ := I.rdK hB
  refine g' ?_
  clear g' G'
  refine PySem.P.add_list e e2 ?_ (by rw [List.size_toArray, List.size_toArray]; omega)
  have ea : its.toArray ++ its2.toArray = (its ++ its2).toArray := by simp
  rw [ea]
  exact ⟨.ref _, _, I.lnew (t' := s.toks) (r.append r2) (by rw [List.length_append]; omega), rfl, q _ I.fresh⟩
end

end L2

set_option Elab.async false
set_option maxRecDepth 100000
set_option linter.all false
namespace Tb
open PySem L2 TL Cm
structure LS (K : PySem.W.Frag) (H : Hp) (as : List Addr) (xs : List (List Nat)) : Prop where
  len : as.length = xs.length
  at_ : ∀ (j : Nat) (a : Addr) (x : List Nat), as[j]? = some a → xs[j]? = some x → RdK K H a (nI x)
theorem LS.get {K : PySem.W.Frag} {H : Hp} {as : List Addr} {xs : List (List Nat)} (R : LS K H as xs) {j : Nat} {a : Addr} (h : as[j]? = some a) : ∃ x, xs[j]? = some x ∧ RdK K H a (nI x) := by
  have hj : j < as.length := (List.getElem?_eq_some_iff.mp h).1
  have hj2 : j < xs.length := by rw [← R.len]; exact hj
  exact ⟨xs[j], List.getElem?_eq_getElem hj2, R.at_ j a _ h (List.getElem?_eq_getElem hj2)⟩
theorem refs_get {as : List Addr} {i : Nat} {y : V} (h : (as.map V.ref)[i]? = some y) : ∃ a, y = V.ref a ∧ as[i]? = some a := by
  rw [List.getElem?_map] at h
  cases e : as[i]? with
  | none => rw [e] at h; cases h
  | some z => rw [e] at h; exact ⟨z, (Option.some.inj h).symm, rfl⟩
end Tb

set_option Elab.async false
set_option maxRecDepth 100000
set_option linter.all false
namespace Tb
open PySem L2 TL Cm
def namesB (xs : List (List Nat)) : Bool := Sh27.among xs.length 1 16 && xs.all Sh27.isName
inductive spNames (K : PySem.W.Frag) (vs : List V) (H : Hp) (Q : VK) (E_ : XK) : Prop
  | mk (a : Addr) (as : List Addr) (xs : List (List Nat)) (c_1 : vs = [.ref a]) (c_2 : SqL K H a (as.map V.ref)) (c_3 : LS K H as xs) (c_4 : Q (.bl (namesB xs)) H)
def roomOf (xs : List (List Nat)) : Nat := (xs.map fun x => x.length).foldl max 0
inductive spRight (K : PySem.W.Frag) (vs : List V) (H : Hp) (Q : VK) (E_ : XK) : Prop
  | mk (a : Addr) (as : List Addr) (xs : List (List Nat)) (c_1 : vs = [.ref a]) (c_2 : SqL K H a (as.map V.ref)) (c_3 : LS K H as xs) (c_4 : 1 ≤ xs.length) (c_5 : xs.length ≤ 300) (c_6 : (∀ x ∈ xs, x.length ≤ 100)) (c_7 : ∀ (l : Addr) (H' : Hp) (bs : List Addr), H l = none → H' l = some (.lst (bs.map V.ref)) → LLN H l H' bs (xs.map (Sh27.right (roomOf xs))) → Same H H' → Q (.ref l) H')
def rowJ (ws : List (List Nat)) : List Nat := ws.foldl (fun (a b : List Nat) => if a = [] then b else a ++ (32 :: 32 :: b)) []
inductive spRowT (vs : List V) (H : Hp) (Q : VK) (E_ : XK) : Prop
  | mk (a : Addr) (cs : List Addr) (xss : List (List (List Nat))) (j : Nat) (c_1 : vs = [.ref a, .int (j : Nat)]) (c_2 : H a = some (.lst (cs.map V.ref))) (c_3 : L3 H cs xss) (c_4 : xss.length ≤ 16) (c_5 : (∀ x ∈ xss, j < x.length ∧ ∀ y ∈ x, y.length ≤ 100)) (c_6 : Fresh H (nI (rowJ (xss.map fun x => x.getD j []))) Q)
structure TabOk (names rows : List (List Nat)) : Prop where
  n1 : 1 ≤ names.length
  n2 : names.length ≤ 16
  nl : ∀ x ∈ names, x.length ≤ 32
  r1 : rows.length ≤ 256
  rl : ∀ r ∈ rows, r.length = names.length ∧ ∀ b ∈ r, b < 2 ^ 64 ∧ b % Sh27.SIGN < Sh27.INF
inductive spTable (K : PySem.W.Frag) (vs : List V) (H : Hp) (Q : VK) (E_ : XK) : Prop
  | mk (a b : Addr) (as bs : List Addr) (names rows : List (List Nat)) (c_1 : vs = [.ref a, .ref b]) (c_2 : SqL K H a (as.map V.ref)) (c_3 : LS K H as names) (c_4 : SqL K H b (bs.map V.ref)) (c_5 : LS K H bs rows) (c_6 : TabOk names rows) (c_7 : Fresh H (nI (Sh27.table names (rows.map fun r => r.map Sh27.decimal))) Q)
theorem foldl_max (l : List Nat) (m : Nat) : m ≤ l.foldl max m ∧ (∀ x ∈ l, x ≤ l.foldl max m) ∧ (l.foldl max m = m ∨ l.foldl max m ∈ l) := by
  induction l generalizing m with
  | nil => exact ⟨Nat.le_refl _, fun x hx => by simp at hx, .inl rfl⟩
  | cons a r ih =>
    refine bg fun G' g' => ?_
    obtain ⟨h1, h2, h3⟩ := ih (max m a)
    refine g' ?_
    clear g' G'
    refine ⟨by rw [List.foldl_cons]; omega, fun x hx => ?_, ?_⟩
    · rcases List.mem_cons.mp hx with hx | hx
      · rw [List.foldl_cons, hx]; (clear hx; omega)
      · exact h2 x hx
    · rw [List.foldl_cons]
      rcases h3 with h3 | h3
      · rcases Nat.le_total m a with y | y
        · right
          rw [h3, Nat.max_eq_right y]
          exact List.mem_cons_self ..
        · left
          rw [h3, Nat.max_eq_left y]
      · exact .inr (List.mem_cons_of_mem _ h3)
theorem room_is {xs : List (List Nat)} (hne : 1 ≤ xs.length) {M : Int} (h1 : M ∈ xs.map fun x => (x.length : Int)) (h2 : ∀ y ∈ xs.map (fun x => (x.length : Int)), y ≤ M) : M = (roomOf xs : Nat) := by
  unfold roomOf
  refine bg fun G' g' => ?_
  obtain ⟨g1, g2, g3⟩ := foldl_max (xs.map fun x => x.length) 0
  refine g' ?_
  clear g' G'
  refine bg fun G' g' => ?_
  obtain ⟨x, hx, rfl⟩ := List.mem_map.mp h1
  refine g' ?_
  clear g' G'
  have a1 := g2 x.length (List.mem_map.mpr ⟨x, hx, rfl⟩)
  rcases g3 with g3 | g3
  · (clear g1 hne; omega)
  · refine bg fun G' g' => ?_
    obtain ⟨y, hy, ey⟩ := List.mem_map.mp g3
    refine g' ?_
    clear g' G'
    have a2 := h2 (y.length : Int) (List.mem_map.mpr ⟨y, hy, rfl⟩)
    rw [← ey]
    rw [← ey] at a1
    (clear ey g1 hne; omega)
theorem room_ge {xs : List (List Nat)} {x : List Nat} (h : x ∈ xs) : x.length ≤ roomOf xs := (foldl_max (xs.map fun x => x.length) 0).2.1 _ (List.mem_map.mpr ⟨x, h, rfl⟩)
theorem room_le {xs : List (List Nat)} {m : Nat} (h : ∀ x ∈ xs, x.length ≤ m) : roomOf xs ≤ m := by
  rcases (foldl_max (xs.map fun x => x.length) 0).2.2 with g | g
  · show (xs.map fun x => x.length).foldl max 0 ≤ m
    omega
  · refine bg fun G' g' => ?_
    obtain ⟨y, hy, ey⟩ := List.mem_map.mp g
    refine g' ?_
    clear g' G'
    have := h y hy
    show (xs.map fun x => x.length).foldl max 0 ≤ m
    omega
theorem rowJ_len (ws : List (List Nat)) (m : Nat) (h : ∀ x ∈ ws, x.length ≤ m) : (rowJ ws).length ≤ ws.length * (m + 2) := by
  have key : ∀ (ws : List (List Nat)) (a : List Nat), (∀ x ∈ ws, x.length ≤ m) → (ws.foldl (fun (a b : List Nat) => if a = [] then b else a ++ (32 :: 32 :: b)) a).length ≤ a.length + ws.length * (m + 2) := fun ws => by
    induction ws with
    | nil => intro a _; simp
    | cons x r ih =>
      intro a h
      rw [List.foldl_cons, List.length_cons, Nat.add_mul, Nat.one_mul]
      refine Nat.le_trans (ih _ (fun y hy => h y (List.mem_cons_of_mem _ hy))) ?_
      have hx := h x (List.mem_cons_self ..)
      split
      · omega
      · simp only [List.length_append, List.length_cons]
        omega
  have := key ws [] h
  rw [List.length_nil, Nat.zero_add] at this
  exact this
def wk (TX : List (List (List Nat))) (k : Nat) : Nat := (TX.map fun r => (r.getD k []).length).foldl max 0
def colT (TX : List (List (List Nat))) (k : Nat) : List (List Nat) := TX.map fun r => Sh27.right (wk TX k) (r.getD k [])
def rowT (TX : List (List (List Nat))) (n j : Nat) : List Nat := rowJ ((List.range n).map fun k => Sh27.right (wk TX k) ((TX.getD j []).getD k []))
theorem col_room (TX : List (List (List Nat))) (k : Nat) : (TX.map fun r => r.getD k []).map (Sh27.right (roomOf (TX.map fun r => r.getD k []))) = colT TX k := by
  unfold colT roomOf wk
  rw [List.map_map, List.map_map]
  rfl
theorem zip_range {α β γ : Type} (f : α → β → γ) (g : Nat → α) (d : β) : ∀ (r : List β), (((List.range r.length).map g).zip r).map (fun x => f x.1 x.2) = (List.range r.length).map fun k => f (g k) (r.getD k d) := by
  intro r
  apply List.ext_getElem?
  intro i
  simp only [List.getElem?_map, List.getElem?_range, List.getElem?_zip_eq_some]
  by_cases h : i < r.length
  · have e1 : (((List.range r.length).map g).zip r)[i]? = some (g i, r[i]) := by
      rw [List.getElem?_zip_eq_some]
      exact ⟨by simp [h], by simp [h]⟩
    rw [e1]
    simp [h]
  · have e1 : (((List.range r.length).map g).zip r)[i]? = none := by
      rw [List.getElem?_eq_none_iff, List.length_zip]
      simp
      omega
    rw [e1]
    simp [h]
theorem joined_eq (TX : List (List (List Nat))) (r : List (List Nat)) (n : Nat) (h : r.length = n) : Sh27.joined ((List.range n).map (wk TX)) r = rowJ ((List.range n).map fun k => Sh27.right (wk TX k) (r.getD k [])) := by
  subst h
  unfold Sh27.joined rowJ
  rw [zip_range (fun (a : Nat) (b : List Nat) => Sh27.right a b) (wk TX) []]
theorem table_eq (names : List (List Nat)) (rows : List (List (List Nat))) (h : ∀ r ∈ rows, r.length = names.length) :
    Sh27.table names rows = (rowT (names :: rows) names.length 0 ++ [10]) ++ (List.replicate (rowT (names :: rows) names.length 0).length 45 ++ [10]) ++ (List.range rows.length).flatMap fun i => rowT (names :: rows) names.length (i + 1) ++ [10] := by
  have hw : ((List.range names.length).map fun i => ((names :: rows).map fun r => (r.getD i []).length).foldl max 0) = (List.range names.length).map (wk (names :: rows)) := rfl
  unfold Sh27.table
  try dsimp only
  rw [hw, joined_eq _ names _ rfl]
  have e0 : rowT (names :: rows) names.length 0 = rowJ ((List.range names.length).map fun k => Sh27.right (wk (names :: rows) k) (names.getD k [])) := rfl
  rw [← e0]
  congr 1
  have : ∀ (TX : List (List (List Nat))) (n : Nat) (rs : List (List (List Nat))), (∀ r ∈ rs, r.length = n) → (rs.flatMap fun r => Sh27.joined ((List.range n).map (wk TX)) r ++ [Sh27.LF]) = (List.range rs.length).flatMap fun i => rowJ ((List.range n).map fun k => Sh27.right (wk TX k) ((rs.getD i []).getD k [])) ++ [10] := fun TX n rs => by
    induction rs with
    | nil => intro _; rfl
    | cons x r ih =>
      intro hx
      rw [List.flatMap_cons, List.length_cons, List.range_succ_eq_map, List.flatMap_cons, List.flatMap_map, joined_eq TX x n (hx x (List.mem_cons_self ..)), ih (fun y hy => hx y (List.mem_cons_of_mem _ hy))]
      rfl
  exact this (names :: rows) names.length rows h
theorem right_len (n : Nat) (x : List Nat) : (Sh27.right n x).length = max n x.length := by
  unfold Sh27.right
  rw [List.length_append, List.length_replicate]
  omega
theorem name_in {x : List Nat} (h : Sh27.isName x = true) : 1 ≤ x.length ∧ x.length ≤ 32 := by
  unfold Sh27.isName Sh27.among at h
  simp only [Bool.and_eq_true, decide_eq_true_eq] at h
  exact h.1
theorem eqvNil (ds : List PyData) : PyData.eqv (.list ds) (.list []) = ds.isEmpty := by
  cases ds with
  | nil => simp [PyData.eqv, PyData.eqvAll]
  | cons a r => simp [PyData.eqv, PyData.eqvAll]
theorem shapedNil : SeqAt.shaped (.list []) = true := by simp [SeqAt.shaped, PyData.canLay0, PyData.canLayAll0, PyData.depth, PyData.depthAll]
theorem rowJ_snoc (ws : List (List Nat)) (b : List Nat) : rowJ (ws ++ [b]) = if rowJ ws = [] then b else rowJ ws ++ (32 :: 32 :: b) := by
  unfold rowJ
  rw [List.foldl_append]
  rfl
def TXof (names rows : List (List Nat)) : List (List (List Nat)) := names :: rows.map fun r => r.map Sh27.decimal
theorem TX_len {names rows : List (List Nat)} (T : TabOk names rows) : ∀ r ∈ TXof names rows, r.length = names.length ∧ ∀ x ∈ r, x.length ≤ 41 := by
  intro r hr
  rcases List.mem_cons.mp hr with rfl | hr
  · exact ⟨rfl, fun x hx => Nat.le_trans (T.nl x hx) (by decide)⟩
  · refine bg fun G' g' => ?_
    obtain ⟨q, hq, rfl⟩ := List.mem_map.mp hr
    refine g' ?_
    clear g' G'
    obtain ⟨a1, a2⟩ := T.rl q hq
    refine ⟨by rw [List.length_map, a1], fun x hx => ?_⟩
    refine bg fun G' g' => ?_
    obtain ⟨b, hb, rfl⟩ := List.mem_map.mp hx
    refine g' ?_
    clear g' G'
    exact dec_len (a2 b hb).2
theorem TX_getD {names rows : List (List Nat)} (T : TabOk names rows) (j k : Nat) : (((TXof names rows).getD j []).getD k []).length ≤ 41 := by
  rw [List.getD_eq_getElem?_getD, List.getD_eq_getElem?_getD]
  cases e : (TXof names rows)[j]? with
  | none => simp
  | some r =>
    have h := TX_len T r (List.mem_of_getElem? e)
    simp only [Option.getD_some]
    cases e2 : r[k]? with
    | none => simp
    | some x => exact h.2 x (List.mem_of_getElem? e2)
theorem wk_le {names rows : List (List Nat)} (T : TabOk names rows) (k : Nat) : wk (TXof names rows) k ≤ 41 := by
  have : wk (TXof names rows) k = roomOf ((TXof names rows).map fun r => r.getD k []) := by
    unfold wk roomOf
    rw [List.map_map]
    rfl
  rw [this]
  refine room_le fun x hx => ?_
  refine bg fun G' g' => ?_
  obtain ⟨r, hr, rfl⟩ := List.mem_map.mp hx
  refine g' ?_
  clear g' G'
  have h := TX_len T r hr
  rw [List.getD_eq_getElem?_getD]
  cases e2 : r[k]? with
  | none => simp
  | some x => exact h.2 x (List.mem_of_getElem? e2)
theorem rowT_len {names rows : List (List Nat)} (T : TabOk names rows) (j : Nat) : (rowT (TXof names rows) names.length j).length ≤ 16 * 43 := by
  unfold rowT
  refine Nat.le_trans (rowJ_len _ 41 fun x hx => ?_) ?_
  · refine bg fun G' g' => ?_
    obtain ⟨k, _, rfl⟩ := List.mem_map.mp hx
    refine g' ?_
    clear g' G'
    rw [right_len]
    have := wk_le T k
    have := TX_getD T j k
    omega
  · rw [List.length_map, List.length_range]
    exact Nat.mul_le_mul_right _ T.n2
def rowsT (TX : List (List (List Nat))) (n m : Nat) : List Nat := (List.range m).flatMap fun i => rowT TX n (i + 1) ++ [10]
theorem rowsT_len {names rows : List (List Nat)} (T : TabOk names rows) (m : Nat) : (rowsT (TXof names rows) names.length m).length ≤ m * 700 := by
  induction m with
  | zero => exact Nat.le_refl _
  | succ m ih =>
    unfold rowsT at *
    rw [List.range_succ, List.flatMap_append, List.length_append]
    have := rowT_len T (m + 1)
    simp only [List.flatMap_cons, List.flatMap_nil, List.append_nil, List.length_append, List.length_singleton]
    omega
theorem rowsT_succ (TX : List (List (List Nat))) (n m : Nat) : rowsT TX n (m + 1) = rowsT TX n m ++ (rowT TX n (m + 1) ++ [10]) := by
  unfold rowsT
  rw [List.range_succ, List.flatMap_append]
  simp
end Tb

set_option Elab.async false
set_option maxRecDepth 100000
set_option linter.all false
namespace L2
open PySem PySem.Spec PyProof.Rows
section
variable {P : Program} {w : World} {K : PySem.W.Frag} {mg : Str → Option Value} {base : Heap} {N : List Str} {qual : Str} {scope : Scope} {f : Addr} {cd : Value} {A : Around} {outer : List Env} {s : Shared} {H : Hp} {E : XK} {C : Addr}
theorem Inv.toN {pins : List (Addr × Obj)} {σ : St} {H1 : Hp} {s1 : Shared} {CX CX' : CXT} (I : Inv (cxOf CX P w K mg base N qual scope f cd A outer s H E) pins σ H1 s1) : Inv (cxOf CX' P w K mg base N qual scope f cd A outer s H E) pins σ H1 s1 :=
  ⟨⟨I.ok.mod, I.ok.kind, I.ok.glob, I.ok.blt, I.ok.above, I.ok.inj, I.ok.has, I.ok.cab, I.ok.hd, I.ok.frames, I.ok.stk, I.ok.exf, I.ok.bs, I.ok.bsz, I.ok.noex, I.ok.exfs, I.ok.funs, I.ok.frf⟩, I.os, I.bare, I.base, I.loc, I.cell, I.free, I.freeC, I.pin, I.hok, I.len⟩
theorem xe_sub {CX CX' : CXT} (h : ∀ ev s', CX outer H s E ev s' → CX' outer H s E ev s') (ev : Value) (s' : Shared) (x : (cxOf CX P w K mg base N qual scope f cd A outer s H E).xe ev s') : (cxOf CX' P w K mg base N qual scope f cd A outer s H E).xe ev s' :=
  wpAny_mono x (fun _ s'' q => h _ s'' q) fun e' s'' q => h e' s'' q
end
theorem excMatches_other {M : Model} {A : Around} {E : Value → Shared → Prop} {nm q : Str} {C N : Addr} {bs bm : List Value} {hdct : Bool} {sn : List Str} {sub : List Value} {ab : Bool} {col : Option Bool} {dd : Option Addr} {k0 k1 k2 k3 k5 : Option Value} {newId : String}
    {nm' q' : Str} {C' N' : Addr} {bs' bm' : List Value} {hdct' : Bool} {sn' : List Str} {sub' : List Value} {ab' : Bool} {col' : Option Bool} {dd' : Option Addr} {k0' k1' k2' k3' k5' : Option Value} {newId' : String}
    {h : Heap} {g : Array GenState} {d : Drawn} {t : Nat} {os : OsState} {e : Addr} {oe : Obj} {Q : Bool → Shared → Prop}
    (hC : h.get? C = some (excClassObj nm q C N bs bm hdct sn sub ab col dd k0 k1 k2 k3 k5 newId)) (hC' : h.get? C' = some (excClassObj nm' q' C' N' bs' bm' hdct' sn' sub' ab' col' dd' k0' k1' k2' k3' k5' newId'))
    (he : h.get? e = some oe) (hcls : oe.cls = .ref C) (hbase : bm'.contains (.type "BaseException") = true) (hno : (Value.ref C :: bm).contains (.ref C') = false)
    (hq : Q false ⟨h, g, d, t, os⟩) : wpAny M A (excMatches (.ref e) (.ref C')) Q E ⟨h, g, d, t, os⟩ := by
  have hcB : (Value.ref C' :: bm').contains (.type "BaseException") = true := by rw [List.contains_cons, hbase, Bool.or_true]
  have f := tc_notTuple
  unfold excMatches
  repeat (first | (with_reducible refine wpAny_loadPart_at he ?_; rw [hcls]) | with_reducible refine wpAny_loadPart_at hC' ?_ | (with_reducible refine wpAny_isSubtype_exc hC' ?_; rw [hcB]) | (with_reducible refine wpAny_isSubtype_exc hC ?_; rw [hno]) | wp_step)
  exact hq
end L2

set_option Elab.async false
set_option maxRecDepth 100000
set_option linter.all false
namespace L2
open PySem PySem.Spec PyProof.Rows
theorem ref_ne {C C' : Addr} (h : C ≠ C') : (Value.ref C :: [Value.type "Exception", .type "BaseException", .type "object"]).contains (.ref C') = false := by
  rw [List.contains_cons]
  have h1 : (Value.ref C' == Value.ref C) = false := by
    rw [beq_eq_false_iff_ne]
    intro z
    cases z
    exact h rfl
  rw [h1]
  rfl
section
variable {X : Cx}
end
end L2

set_option Elab.async false
set_option maxRecDepth 100000
set_option linter.all false
namespace Cm
open PySem L2 TL Rd
inductive spPowFor (vs : List V) (H : Hp) (Q : VK) (E_ : XK) : Prop
  | mk (o u : Nat) (c_1 : vs = [.int (o : Nat), .int (u : Nat)]) (c_2 : 0 < o) (c_3 : 0 < u) (c_4 : o < 2 ^ 2900) (c_5 : u < 2 ^ 2900) (c_6 : Q (.int (DM.powF o u)) H)
inductive spRatio (CX : Addr) (vs : List V) (H : Hp) (Q : VK) (E : XK) : Prop
  | mk (o u : Nat) (c_1 : vs = [.int (o : Nat), .int (u : Nat)]) (c_2 : 0 < o) (c_3 : 0 < u) (c_4 : o < 2 ^ 2900) (c_5 : u < 2 ^ 2900) (c_6 : (DM.ratioR o u < Sh27.INF → Q (.int (DM.ratioR o u : Nat)) H)) (c_7 : (Sh27.INF ≤ DM.ratioR o u → ∀ H', E (.ref CX) none H'))
inductive spNearD (CX : Addr) (vs : List V) (H : Hp) (Q : VK) (E : XK) : Prop
  | mk (n : Nat) (x : Int) (c_1 : vs = [.int (n : Nat), .int x]) (c_2 : n < 10 ^ 70) (c_3 : -20000 ≤ x) (c_4 : x ≤ 20000) (c_5 : (∀ b : Nat, DM.decR n x = some b → Q (.int (b : Nat)) H)) (c_6 : (DM.decR n x = none → ∀ H', E (.ref CX) none H'))
inductive spNumOf (K : PySem.W.Frag) (vs : List V) (H : Hp) (Q : VK) (E_ : XK) : Prop
  | mk (a : Addr) (ds : List Nat) (c_1 : vs = [.ref a]) (c_2 : SqL K H a (nI (ds.map (· - 48)))) (c_3 : Q (.int (Sh27.natOf ds : Nat)) H)
inductive spDigits (K : PySem.W.Frag) (CR CX : Addr) (vs : List V) (H : Hp) (Q : VK) (E : XK) : Prop
  | mk (rd a : Addr) (t : List Nat) (p m : Nat) (c_1 : vs = [.ref rd, .int (m : Nat)]) (c_2 : Rd1 K CR H rd a t p) (c_3 : (1 ≤ m ∨ t.drop p = [])) (c_4 : m ≤ 1000) (c_5 : (∀ ds r, DM.digR m (t.drop p) = some (ds, r) → ∀ (q : Nat) (l : Addr) (H' : Hp), Rd1 K CR H' rd a t q → t.drop q = r → H l = none → H' l = some (.lst (nI (ds.map (· - 48)))) → Same (hide H rd) H' → Q (.ref l) H')) (c_6 : (DM.digR m (t.drop p) = none → ∀ H' : Hp, E (.ref CX) none H'))
inductive spPower (K : PySem.W.Frag) (CR CX : Addr) (vs : List V) (H : Hp) (Q : VK) (E : XK) : Prop
  | mk (rd a : Addr) (t : List Nat) (p : Nat) (c_1 : vs = [.ref rd]) (c_2 : Rd1 K CR H rd a t p) (c_3 : (∀ x r, DM.powR (t.drop p) = some (x, r) → ∀ (q : Nat) (H' : Hp), Rd1 K CR H' rd a t q → t.drop q = r → Same (hide H rd) H' → Q (.int x) H')) (c_4 : (DM.powR (t.drop p) = none → ∀ H' : Hp, E (.ref CX) none H'))
def decB (g : Bool) (b : Nat) : Nat := if g = true ∧ 0 < b then b + Sh27.SIGN else b
inductive spReadDec (K : PySem.W.Frag) (CX CG : Addr) (vs : List V) (H : Hp) (Q : VK) (E : XK) : Prop
  | mk (a : Addr) (t : List Nat) (c_1 : vs = [.ref a]) (c_2 : SqL K H a (nI t)) (c_3 : t.length ≤ 64) (c_4 : (DM.readD t = none → ∀ H', E (.ref CX) none H')) (c_5 : (∀ g ds x, DM.readD t = some (g, ds, x) → DM.decR (Sh27.natOf ds) x = none → ∀ H', E (.ref CG) none H')) (c_6 : (∀ g ds x b, DM.readD t = some (g, ds, x) → DM.decR (Sh27.natOf ds) x = some b → ∀ H', Same H H' → Q (.int (decB g b : Nat)) H'))
theorem bl_le {n k : Nat} (h : n < 2 ^ k) : DM.bl n ≤ k := by
  unfold DM.bl
  split
  · omega
  · rename_i h0
    have := (Nat.log2_lt h0).mpr h
    (clear h0 h; omega)
theorem bits_bl (n : Nat) : (Builtin.Int.intBits ((n : Nat) : Int)) = DM.bl n := by
  unfold Builtin.Int.intBits DM.bl
  by_cases h : n = 0
  · subst h
    rfl
  · rw [if_neg h, if_neg (by simp; omega)]
    rw [Int.natAbs_natCast]
theorem natOf_foldl (ds : List Nat) (n : Nat) : (ds.map (· - 48)).foldl (fun n d => n * 10 + d) n = ds.foldl (fun n c => 10 * n + (c - 48)) n := by
  induction ds generalizing n with
  | nil => rfl
  | cons a r ih =>
    simp only [List.map_cons, List.foldl_cons]
    rw [ih, Nat.mul_comm n 10]
theorem dig_done {ds r : List Nat} {m : Nat} (h1 : ∀ c ∈ ds, Sh27.isDigit c = true) (h2 : ds.length ≤ m) (h3 : ds ≠ []) (h4 : (decide (ds.length < m) && (r.head?.any Sh27.isDigit)) = false) : DM.digR m (ds ++ r) = some (ds, r) := by
  have e : ((ds ++ r).take m).takeWhile Sh27.isDigit = ds := by
    rw [List.take_append, List.take_of_length_le h2, List.takeWhile_append_of_pos h1]
    have : (r.take (m - ds.length)).takeWhile Sh27.isDigit = [] := by
      rw [Bool.and_eq_false_iff] at h4
      rcases h4 with h4 | h4
      · have h5 : ¬ ds.length < m := by simpa using h4
        rw [show m - ds.length = 0 by omega]
        rfl
      · cases r with
        | nil => rw [List.take_nil]; rfl
        | cons c r =>
          have h5 : Sh27.isDigit c = false := by simpa using h4
          cases m - ds.length with
          | zero => rfl
          | succ k =>
            rw [List.take_succ_cons, List.takeWhile_cons, h5]
            rfl
    rw [this, List.append_nil]
  unfold DM.digR
  rw [e, if_neg h3, List.drop_left]
theorem dig_none {t : List Nat} {m : Nat} (h : byteR 48 57 t = none) : DM.digR m t = none := by
  unfold DM.digR
  rw [if_pos]
  cases t with
  | nil => rw [List.take_nil]; rfl
  | cons c r =>
    have h5 : Sh27.isDigit c = false := by
      rw [Rd.byteR_cons] at h
      split at h
      · cases h
      · rename_i hn
        unfold Sh27.isDigit
        rw [Bool.and_eq_false_iff, decide_eq_false_iff_not, decide_eq_false_iff_not]
        omega
    cases m with
    | zero => rfl
    | succ k =>
      rw [List.take_succ_cons, List.takeWhile_cons, h5]
      rfl
theorem digR_facts {m : Nat} {t a r : List Nat} (h : DM.digR m t = some (a, r)) : t = a ++ r ∧ (∀ c ∈ a, Sh27.isDigit c = true) ∧ a.length ≤ m := by
  unfold DM.digR at h
  split at h
  · cases h
  · injection h with h
    injection h with h1 h2
    have e : ∀ l : List Nat, l.takeWhile Sh27.isDigit ++ l.drop (l.takeWhile Sh27.isDigit).length = l := fun l => by
      rw [DM.tw_drop]
      exact List.takeWhile_append_dropWhile
    have hall : ∀ c ∈ (t.take m).takeWhile Sh27.isDigit, Sh27.isDigit c = true := fun c hc => by
      have : ∀ l : List Nat, c ∈ l.takeWhile Sh27.isDigit → Sh27.isDigit c = true := fun l => by
        induction l with
        | nil => intro z; simp at z
        | cons x l ih =>
          rw [List.takeWhile_cons]
          split
          · rename_i hx
            intro z
            rcases List.mem_cons.mp z with z | z
            · rw [z]; exact hx
            · exact ih z
          · intro z
            simp at z
      exact this _ hc
    have hl := DM.tw_len Sh27.isDigit (t.take m)
    have hl2 : (t.take m).length ≤ m := by rw [List.length_take]; (clear hl h2 h1; omega)
    refine ⟨?_, by rw [← h1]; exact hall, by rw [← h1]; omega⟩
    have e1 := e (t.take m)
    have e2 : t.take m ++ t.drop m = t := List.take_append_drop m t
    rw [← h2, ← h1]
    generalize hw : (t.take m).takeWhile Sh27.isDigit = wds at *
    have hlen : wds.length ≤ (t.take m).length := hl
    have e3 : t.drop wds.length = (t.take m).drop wds.length ++ t.drop m := by
      conv => lhs; rw [← e2]
      rw [List.drop_append_of_le_length hlen]
    rw [e3, ← List.append_assoc, e1, e2]
theorem natOf_lt : ∀ (ds : List Nat), (∀ c ∈ ds, Sh27.isDigit c = true) → Sh27.natOf ds < 10 ^ ds.length := by
  have key : ∀ (ds : List Nat) (n k : Nat), (∀ c ∈ ds, Sh27.isDigit c = true) → n < 10 ^ k → ds.foldl (fun n c => 10 * n + (c - 48)) n < 10 ^ (k + ds.length) := fun ds => by
    induction ds with
    | nil => intro n k _ h; exact h
    | cons a r ih =>
      intro n k h hn
      rw [List.foldl_cons, List.length_cons, show k + (r.length + 1) = (k + 1) + r.length by (clear hn; omega)]
      refine ih _ _ (fun c hc => h c (List.mem_cons_of_mem _ hc)) ?_
      have ha := h a (List.mem_cons_self ..)
      unfold Sh27.isDigit at ha
      simp only [Bool.and_eq_true, decide_eq_true_eq] at ha
      rw [Nat.pow_succ]
      omega
  intro ds h
  have := key ds 0 0 h (by decide)
  rw [Nat.zero_add] at this
  exact this
theorem tk_takeP (b : Nat) (t : List Nat) : takeP [b] t = DM.tk b t := by
  unfold takeP
  cases t with
  | nil => rfl
  | cons d r =>
    by_cases h : d = b
    · subst h
      rw [DM.tk_yes]
      simp
    · rw [DM.tk_no r h]
      simp [h]
end Cm

set_option Elab.async false
set_option maxRecDepth 100000
set_option linter.all false
namespace L2
open PySem PySem.Spec
open PyProof.Rows hiding St
def CXH (P : Program) (w : World) (C L : Addr) : CXT := fun outer H s E ev s' => ∃ (e : Addr) (a0 : Value) (B : Heap) (H' : Hp), ev = .ref e ∧ s'.os = s.os ∧ AllBare s'.gens ∧ Heap.HeldW B outer e (.ref C) a0 L s'.heap ∧
  UnB (frs outer) H H' s.heap B ∧ (∀ b o, s.heap.get? b = some o → b ∈ frs outer → ∃ sl, s'.heap.get? b = some { o with slots := sl }) ∧ HOk P w H' B ∧ E (.ref C) none H'
def PassesH (C : Addr) (X : Cx) (E : XK) : Prop := ∀ (pins : List (Addr × Obj)) (σ : St) (H : Hp) (s : Shared) (e : Value) (s' : Shared), Inv X pins σ H s → CXH X.prog X.w C X.env.locals X.stack H s E e s' → X.xe e s'
theorem leaves_held {M : Model} {A : Around} {E : Value → Shared → Prop} {s : Shared} {base : Heap} {env : Env} {outer : List Env} {L e : Addr} {cls a0 : Value} {Q : Unit → Shared → Prop} (hf : env.frame = some L)
    (hh : Heap.HeldW base (env :: outer) e cls a0 L s.heap) (hQ : ∀ h', Heap.FlyingW base outer e cls a0 h' → s.heap.UpToSlots h' → Q () { s with heap := h' }) : wpAny M A (leaving env (.ref e)) Q E s := by
  unfold leaving
  refine wpAny_bind (wpAny_noteFrame_againW hf hh.2.2.2 ?_)
  refine wpAny_landsW hh fun h' hfl up => ?_
  refine bg fun G' g' => ?_
  obtain ⟨k1, k2, ⟨_, _, k3⟩, k4⟩ := hfl
  refine g' ?_
  clear g' G'
  exact hQ h' ⟨k1, k2, k3, k4⟩ up
section
variable {P : Program} {w : World} {K : PySem.W.Frag} {mg : Str → Option Value} {base : Heap} {N : List Str} {qual : Str} {scope : Scope} {f : Addr} {cd : Value} {A : Around} {outer : List Env} {s : Shared} {H : Hp} {E : XK} {C : Addr}
theorem pass_onH : PassesH C (cxOf (CXN P w C) P w K mg base N qual scope f cd A outer s H E) E := by
  intro pins σ H1 s1 ev s' I cx
  refine bg fun G' g' => ?_
  obtain ⟨e, a0, B, H', rfl, os, bare, fl, un, slots, hok, hE⟩ := cx
  refine g' ?_
  clear g' G'
  have hst : (cxOf (CXN P w C) P w K mg base N qual scope f cd A outer s H E).stack = (cxOf (CXN P w C) P w K mg base N qual scope f cd A outer s H E).env :: (cxOf (CXN P w C) P w K mg base N qual scope f cd A outer s H E).outer := rfl
  have hfr : (cxOf (CXN P w C) P w K mg base N qual scope f cd A outer s H E).env.frame = some (cxOf (CXN P w C) P w K mg base N qual scope f cd A outer s H E).env.locals := rfl
  refine leaves_held hfr fl fun h2 x1 x2 => ?_
  refine ⟨e, a0, B, H', rfl, os.trans I.os, bare, x1, ⟨fun b o eb n hb => ?_, fun b o eb n => ?_, fun b o eb hb => ?_, fun b xs q => un.tups b xs (I.base.tups b xs q), fun b o u q => un.frzs b o u (I.base.frzs b o u q), fun b ps q => ?_⟩, fun b o eb hb => ?_, hok, hE⟩
  · exact un.keep b o (I.base.keep b o eb n hb (by simp [cxOf])) (I.base.free b o eb n (by simp [cxOf])) fun hm' => by
      rcases (mem_stack hst hfr).mp hm' with z | z
      · exact old_ne I eb z
      · exact hb z
  · obtain ⟨o', e'⟩ := I.base.there b o eb (by simp [cxOf])
    exact un.free b o' e' (I.base.free b o eb n (by simp [cxOf]))
  · obtain ⟨o', e'⟩ := I.base.there b o eb (by simp [cxOf])
    exact un.there b o' e' fun hm' => by
      rcases (mem_stack hst hfr).mp hm' with z | z
      · exact old_ne I eb z
      · exact hb z
  · obtain ⟨m1, e1⟩ := I.base.tbls b ps q
    obtain ⟨m2, e2⟩ := un.tbls b _ e1
    exact ⟨m1 ++ m2, by rw [e2, Array.append_assoc]⟩
  · have hnone : H b = none := I.ok.frf b hb
    obtain ⟨sl, e1⟩ := I.base.slot b o eb hnone hb (by simp [cxOf])
    obtain ⟨sl1, e2⟩ := slots b _ e1 ((mem_stack hst hfr).mpr (.inr hb))
    refine bg fun G' g' => ?_
    obtain ⟨_, o2, ho2, hd2⟩ := fl.2.2.1.mem ((mem_stack hst hfr).mpr (.inr hb))
    refine g' ?_
    clear g' G'
    rw [e2] at ho2
    cases ho2
    obtain ⟨sl', e3⟩ := x2 b _ e2 hd2
    exact ⟨sl', e3⟩
end
theorem note_eq {x : Value} {ce env : Env} (h : ce.frame = env.frame) : noteFrame x ce = noteFrame x env := by
  unfold noteFrame PySem.frameOf
  rw [h]
theorem flight_held {M : Model} {A : Around} {E : Value → Shared → Prop} {s : Shared} {base : Heap} {l : List Env} {L e : Addr} {cls a0 : Value} {Q : Unit → Shared → Prop} (hh : Heap.HeldW base l e cls a0 L s.heap)
    (hQ : ∀ h', Heap.HeldW base l e cls a0 L h' → s.heap.UpToSlots h' → Q () { s with heap := h' }) : wpAny M A (setFlight (.ref e) (some L)) Q E s := by
  refine bg fun G' g' => ?_
  obtain ⟨hkb, hen, hl, oe, vs, T, oT, ts, he, hcls, hd, h1, hnT, hTe, hT, hdT, h3⟩ := hh
  refine g' ?_
  clear g' G'
  have hsz3 : 3 < ts.size := (Array.getElem?_eq_some_iff.mp h3).1
  have other : ∀ b, b ≠ T → (s.heap.update T (Obj.mapFields (·.setIfInBounds 3 ((some L : Option Addr).elim Value.none fun f => rawInt f)))).get? b = s.heap.get? b :=
    fun b hb => Heap.get?_update_other _ _ (Ne.symm hb)
  have noRecord : ∀ b o, s.heap.get? b = some o → (∀ vs, o.data ≠ .fields vs) → b ≠ T := fun b o hb hnf q => by
    rw [q, hT] at hb; injection hb with hb; subst hb; exact hnf ts hdT
  unfold setFlight
  refine wpAny_bind (wpAny_field he hd h1 ?_)
  rw [if_pos (show (Value.ref T != Value.none) = true from by simp)]
  refine wpAny_setField hT hdT hsz3 (hQ _ ⟨fun b o hbo => (other b fun q => by rw [q, hnT] at hbo; cases hbo).trans (hkb b o hbo), hen,
    hl.of_keeps fun b o hb hnf => ⟨o, (other b (noRecord b o hb hnf)).trans hb, rfl⟩, ?_⟩ fun b o hb hnf => ⟨o.slots, (other b (noRecord b o hb hnf)).trans hb⟩)
  exact ⟨oe, vs, T, _, _, (other e (Ne.symm hTe)).trans he, hcls, hd, h1, hnT, hTe, Heap.get?_update_self _ hT (Obj.isFreed_of_fields (Obj.data_mapFields hdT _)), Obj.data_mapFields hdT _, by simp [hsz3]⟩
theorem pass_held {M : Model} {A : Around} {E : Value → Shared → Prop} {s : Shared} {base : Heap} {l : List Env} {L e : Addr} {cls a0 : Value} {ce : Env} {what : String} (hf : ce.frame = some L) (hh : Heap.HeldW base l e cls a0 L s.heap)
    (hQ : ∀ h', Heap.HeldW base l e cls a0 L h' → s.heap.UpToSlots h' → E (.ref e) { s with heap := h' }) : wpAny M A (PySem.passOn what (.ref e) ce : Sem Value) (fun _ _ => False) E s := by
  refine bg fun G' g' => ?_
  obtain ⟨hkb, hen, hl, oe, vs, T, oT, ts, he, hcls, hd, h1, hnT, hTe, hT, hdT, h3⟩ := hh
  refine g' ?_
  clear g' G'
  unfold PySem.passOn
  refine wpAny_bind (wpAny_field he hd h1 ?_)
  rw [if_neg (show ¬ ((Value.ref T == Value.none) = true) from by simp)]
  rw [hf]
  exact wpAny_bind (flight_held ⟨hkb, hen, hl, oe, vs, T, oT, ts, he, hcls, hd, h1, hnT, hTe, hT, hdT, h3⟩ fun h' x1 x2 => wpAny_throw (hQ h' x1 x2))
def compPostX (M : Model) (A : Around) (E : Value → Shared → Prop) (use : Option (Value → Sem Unit)) (Q : Value → Shared → Prop) (acc : Value) (ce : Env) (r : Result) (s' : Shared) : Prop :=
  match r, use with
  | .ok _, none => ∃ m, s'.heap.Ns ce.locals m ∧ ∀ h', Heap.SameBut ce.locals s'.heap h' → Q acc { s' with heap := h' }
  | .ok _, some u => wpAny M A (u acc) (fun _ s'' => ∃ m, s''.heap.Ns ce.locals m ∧ ∀ h', Heap.SameBut ce.locals s''.heap h' → Q .none { s'' with heap := h' }) E s'
  | .error x, _ => ∃ m, s'.heap.Ns ce.locals m ∧ ∀ h', Heap.SameBut ce.locals s'.heap h' → wpAny M A (PySem.passOn "comprehension.variables-let-go" x ce : Sem Value) (fun _ _ => False) E { s' with heap := h' }
theorem comp_freeX {M : Model} {A : Around} {E : Value → Shared → Prop} {s : Shared} {env : Env} {e : Expr} {scope : Scope} {pos : Pos} {newAcc first : Sem Value} {g : Comprehension} {gs : List Comprehension} {cl : List (Str × Addr)} {use : Option (Value → Sem Unit)}
    {Q : Value → Shared → Prop}
    (hcl : clausesOf e = g :: gs) (hs : ∀ x, foldedSetIterable g.iter env x = pure x) (hclos : closureFor scope env = pure cl)
    (hkind : scope.kind = .function) (hnames : ∀ x ∈ scope.names, x.2 = .local → scope.names.lookup x.1 = some .local)
    (h : wpAny M A first (fun x s₁ => wpAny M A (pyIter x) (fun it s₂ => wpAny M A newAcc (fun acc s₃ =>
      wpAny M A (newFunctionEnv scope env.globals cl [] env.qual none .none (some env)) (fun cenv s₄ =>
        codeAny M A (.compStart e 0 it acc { cenv with scope := relabel scope env }) (compPostX M A E use Q acc { cenv with scope := relabel scope env }) s₄) E s₃) E s₂) E s₁) E s) :
    wpAny M A (comprehension e scope env pos newAcc false first use) Q E s := by
  unfold comprehension
  rw [hclos, hcl]
  refine wpAny_bind (wpAny_mono h (fun x s₁ h₁ => wpAny_bind (wpAny_standAt (wpAny_bind (wpAny_of_eq (hs x) (wpAny_bind (wpAny_holding (wpAny_mono h₁ (fun it s₂ h₂ =>
    wpAny_standIf (wpAny_bind (wpAny_mono h₂ (fun acc s₃ h₃ => wpAny_bind (wpAny_pure (wpAny_bind (wpAny_mono h₃ (fun cenv s₄ h₄ => ?_) fun _ _ h' => h')))) fun _ _ h' => h')))
      fun _ _ h' => h'))))))) fun _ _ h' => h')
  try dsimp only
  have hv : ∀ x ∈ (scope.names.filter fun x => (x.2 == .local || x.2 == .cell) && x.1 != (".0" : Str)).reverse, x.2 = .local →
      Env.kindOf { cenv with scope := relabel scope env } x.1 = some .local := fun x hx hl => lookup_relabel_local (hnames x (List.mem_filter.mp (List.mem_reverse.mp hx)).1 hl)
  have hv' : ∀ x ∈ (scope.names.filter fun x => (x.2 == .local || x.2 == .cell) && x.1 != (".0" : Str)).reverse.drop 1 ++ (scope.names.filter fun x => (x.2 == .local || x.2 == .cell) && x.1 != (".0" : Str)).reverse.take 1,
      x.2 = .local → Env.kindOf { cenv with scope := relabel scope env } x.1 = some .local := fun x hx hl => by
    rcases List.mem_append.mp hx with h1 | h1
    · exact hv x (List.mem_of_mem_drop h1) hl
    · exact hv x (List.mem_of_mem_take h1) hl
  refine wpAny_holding (wpAny_bind (wpAny_attempt (wpAny_holding (wpAny_run (codeAny_mono h₄ fun r s' hr => ?_)))))
  cases r with
  | ok f =>
    cases use with
    | none =>
      refine bg fun G' g' => ?_
      obtain ⟨m, hn, hr⟩ := hr
      refine g' ?_
      clear g' G'
      exact wpAny_bind (wpAny_holding (wpAny_comp_letGo (cenv := { cenv with scope := relabel scope env }) hkind _ s' m hv hn fun h' m' _ hs' => wpAny_pure (hr h' hs')))
    | some u =>
      refine wpAny_bind (wpAny_rule (wpAny_bind (wpAny_holding (wpAny_mono hr (fun _ s'' hr' => ?_) fun _ _ h' => h'))))
      refine bg fun G' g' => ?_
      obtain ⟨m, hn, hr'⟩ := hr'
      refine g' ?_
      clear g' G'
      exact wpAny_bind (wpAny_comp_letGo (cenv := { cenv with scope := relabel scope env }) hkind _ s'' m hv' hn fun h' m' _ hs' => wpAny_pure (hr' h' hs'))
  | error x =>
    have hr' : ∃ m, s'.heap.Ns cenv.locals m ∧ ∀ h', Heap.SameBut cenv.locals s'.heap h' → wpAny M A (PySem.passOn "comprehension.variables-let-go" x { cenv with scope := relabel scope env } : Sem Value) (fun _ _ => False) E { s' with heap := h' } := by cases use <;> exact hr
    refine bg fun G' g' => ?_
    obtain ⟨m, hn, hr⟩ := hr'
    refine g' ?_
    clear g' G'
    exact wpAny_bind (wpAny_holding (wpAny_comp_letGo (cenv := { cenv with scope := relabel scope env }) hkind _ s' m hv hn fun h' m' _ hs' => wpAny_mono (hr h' hs') (fun _ _ f => f.elim) fun _ _ y => y))
section
variable {X : Cx}
theorem lc_coreX {pins : List (Addr × Obj)} {s : Shared} {σ : St} {H : Hp} {Q : VK} {elt tg iter : Expr} {ifs : List Expr} {scope : Scope} {own : List (Str × Nat)} {pos pos' : Pos} {wi : TI} {g : TG} {tt : TT} {te : TE} {use : Option (Value → Sem Unit)} {Qf : Value → Shared → Prop} {Cc : Addr} {EX : XK}
    (hc : X.calm = true) (hN : X.N.Nodup) (I : Inv X pins σ H s) (hst : X.stack = X.env :: X.outer) (hfr : X.env.frame = some X.env.locals) (hp : PassesH Cc X EX) (hi : PI X tg iter wi) (ok : BlkOk X.N X.env.scope scope own)
    (hg : ∀ (s : Shared) (H : Hp) (C : Addr) (cl : List (Str × Addr)) (fp : List Addr), PG (X.blk s H scope (compEnvC scope cl C X.env) fp) tg g) (ht : ∀ (s : Shared) (H : Hp) (C : Addr) (cl : List (Str × Addr)) (fp : List Addr), PTs (X.blk s H scope (compEnvC scope cl C X.env) fp) ifs tt)
    (he : ∀ (s : Shared) (H : Hp) (C : Addr) (cl : List (Str × Addr)) (fp : List Addr) (pn : List (Addr × Obj)) (E' : Value → Shared → Prop), Passes (CXN X.prog X.w Cc) ((X.blk s H scope (compEnvC scope cl C X.env) fp).tryc pn E') EX → PE ((X.blk s H scope (compEnvC scope cl C X.env) fp).tryc pn E') elt te) (hs : ∀ x, foldedSetIterable iter X.env x = pure x)
    (h : tLc wi g tt te (own.map (·.2)) σ H Q)
    (hRR : ∀ D C s' m H', Inv X pins σ H' s' → Q (.ref D) H' → s'.heap.Ns C m → FpOk X pins H' C → compPost (model X.prog X.w) X.A X.xe use Qf (.ref D) C (.ok .next) s') :
    wpAny (model X.prog X.w) X.A (comprehension (.ListComp elt [⟨tg, iter, ifs, 0⟩] scope pos) scope X.env pos' (newList []) false (eval iter X.env) use) Qf X.xe s := by
  have hfree : ∀ y ∈ scope.names, y.2 = .free → ∃ c, X.env.cells.lookup y.1 = some c := fun y hy e => by
    rcases ok.free y hy e with k | k
    · exact I.ok.has _ (.inl k)
    · exact I.ok.has _ (.inr k)
  refine comp_freeX (use := use) rfl hs (closure_ok hfree) ok.kind (fun y hy e => by rw [ok.uniq y hy, e])
    (thn (hi pins s σ H _ I h) fun xv s1 hx => thn hx fun itv s2 h2 => ?_)
  refine bg fun G' g' => ?_
  obtain ⟨it, fp, tn, J, H2, e, I2, T, st2, f2, q⟩ := h2
  refine g' ?_
  clear g' G'
  subst e
  refine wpAny_newObj_type (newEnv_comp ?_) (by show 0 ≤ sizeLine; decide)
  generalize hD : s2.heap.objs.size = D
  have hDn : H2 D = none := I2.hok.fresh (Nat.le_of_eq hD)
  refine bg fun G' g' => ?_
  obtain ⟨W, ⟨m0, w0⟩, turn⟩ := q D hDn
  refine g' ?_
  clear g' G'
  -- the new list
  generalize hs3 : ({ s2 with heap := s2.heap.push { cls := .type "list", data := .seq ([] : List Value).toArray } } : Shared) = s3
  have I3 : Inv X pins σ (upd H2 D (.lst [])) s3 := by
    rw [← hs3]
    refine I2.laid (t' := s2.toks) (fun b o e => Heap.get?_push_of_some _ e) (Nat.le_of_eq hD) ⟨Nat.zero_le _, [], 0, .nil, ?_⟩
    rw [← hD]
    exact Heap.get?_push_size _ rfl
  have h3 : s3.heap = s2.heap.push { cls := .type "list", data := .seq ([] : List Value).toArray } := by rw [← hs3]
  have sz : ∀ b ∈ fp, b < s2.heap.objs.size := fun b hb => by
    refine bg fun G' g' => ?_
    obtain ⟨o, e, _⟩ := T.obj _ _ st2 b hb
    refine g' ?_
    clear g' G'
    exact Heap.lt_size e
  have f3 : ∀ b ∈ fp, FpOk X pins (upd H2 D (.lst [])) b ∧ b < s3.heap.objs.size := fun b hb => by
    have hlt := sz b hb
    refine ⟨⟨?_, (f2 b hb).2⟩, by rw [h3, Heap.size_push]; exact Nat.lt_succ_of_lt hlt⟩
    rw [upd_ne (by rw [← hD]; exact Nat.ne_of_lt hlt)]
    exact (f2 b hb).1
  have st3 : tn 0 s3.heap := T.keep _ _ _ st2 fun b _ o e => by rw [h3]; exact Heap.get?_push_of_some _ e
  have I4 := block_start I3 ok hN f3
  have pg := hg s3 (upd H2 D (.lst [])) s3.heap.objs.size (cellsFrom (s3.heap.objs.size + 1) scope.names (cloFrom X.env.cells scope.names [])) fp
  have pt := ht s3 (upd H2 D (.lst [])) s3.heap.objs.size (cellsFrom (s3.heap.objs.size + 1) scope.names (cloFrom X.env.cells scope.names [])) fp
  have pe := he s3 (upd H2 D (.lst [])) s3.heap.objs.size (cellsFrom (s3.heap.objs.size + 1) scope.names (cloFrom X.env.cells scope.names [])) fp
  show codeAny _ _ (.compStart (.ListComp elt [⟨tg, iter, ifs, 0⟩] scope pos) 0 (.ref it) (.ref D) (compEnvC scope (cellsFrom (s3.heap.objs.size + 1) scope.names (cloFrom X.env.cells scope.names [])) s3.heap.objs.size X.env)) (compPostX (model X.prog X.w) X.A X.xe use Qf (.ref D) (compEnvC scope (cellsFrom (s3.heap.objs.size + 1) scope.names (cloFrom X.env.cells scope.names [])) s3.heap.objs.size X.env)) { s3 with heap := pushCells (s3.heap.push { cls := .type "dict", data := .dict #[] }) scope.names }
  have nfp : ∀ b ∈ fp, (upd H2 D (.lst [])) b = none := fun b hb => (f3 b hb).1.1
  generalize hce : compEnvC scope (cellsFrom (s3.heap.objs.size + 1) scope.names (cloFrom X.env.cells scope.names [])) s3.heap.objs.size X.env = ce at I4 pg pt pe ⊢
  have cL : ce.locals = s3.heap.objs.size := by subst hce; rfl
  have cF : ce.frame = X.env.frame := by subst hce; rfl
  generalize hH3 : upd H2 D (.lst []) = H3 at I3 I4 pg pt pe w0 nfp f3
  generalize hs4 : ({ s3 with heap := pushCells (s3.heap.push { cls := .type "dict", data := .dict #[] }) scope.names } : Shared) = s4 at I4 ⊢
  have st4 : tn 0 s4.heap := T.keep _ _ _ st3 fun b _ o e => by rw [← hs4]; exact pushCells_keeps _ _ _ _ (Heap.get?_push_of_some _ e)
  have stat : ∀ {σ' : St} {H' : Hp} {s' : Shared}, Inv (X.blk s3 H3 scope ce fp) [] σ' H' s' → (∀ b ∈ fp, H' b = none) → ∀ b ∈ fp, FpOk (X.blk s3 H3 scope ce fp) [] H' b := fun {σ' H' s'} I' hn b hb =>
    ⟨hn b hb, (I'.ok.exf b hb).1, I'.ok.exfs b hb, .inl hb, fun x c e => (I'.ok.exf b hb).2 x c e, fun p hp => absurd (show p ∈ ([] : List (Addr × Obj)) ++ [] from hp) (by simp)⟩
  -- an error on its way out
  have pass : ∀ (pn0 : List (Addr × Obj)), Passes (CXN X.prog X.w Cc) ((X.blk s3 H3 scope ce fp).tryc ((X.blk s3 H3 scope ce fp).pn ++ pn0) (notedBy (model X.prog X.w) X.A ce fun e s' => compPostX (model X.prog X.w) X.A X.xe use Qf (.ref D) ce (.error e) s')) EX := by
    intro pn0 pins' σ' H5 s5 ev s' J' cx
    have J : Inv (X.blk s3 H3 scope ce fp) pn0 σ' H5 s5 := J'.untryc
    refine bg fun G' g' => ?_
    obtain ⟨e, a0, B, H', rfl, os, bare, fl, un, slots, hok, hE⟩ := cx
    refine g' ?_
    clear g' G'
    have fl : Heap.FlyingW B X.stack e (.ref Cc) a0 s'.heap := fl
    have un : UnB (frs X.stack) H5 H' s5.heap B := un
    have slots : ∀ b o, s5.heap.get? b = some o → b ∈ frs X.stack → ∃ sl, s'.heap.get? b = some { o with slots := sl } := slots
    have frs' : X.A.frames = some (X.env :: X.outer) := by rw [← hst]; exact I3.ok.frames
    obtain ⟨m, oC, es, ep, gC, dC, kC, lC⟩ : ∃ m, s5.heap.Ns ce.locals m := let ⟨m, hn, _⟩ := J.loc; ⟨m, hn⟩
    have nC : H5 ce.locals = none := J.free
    have cfr : ce.locals ∉ frs X.stack := fun hm => by
      refine bg fun G' g' => ?_
      obtain ⟨_, o, ho, _⟩ := I3.stack.mem hm
      refine g' ?_
      clear g' G'
      rw [cL] at ho
      exact absurd (Heap.lt_size ho) (Nat.lt_irrefl _)
    have bC : B.get? ce.locals = some oC := un.keep _ _ gC nC cfr
    have eC : e ≠ ce.locals := fun z => by
      have := fl.2.1
      rw [z, bC] at this
      cases this
    show wpAny _ _ (noteFrame (.ref e) ce) _ _ _
    rw [note_eq cF]
    rw [hst] at fl
    refine wpAny_looks_onW frs' hfr fl fun h6 held6 sm6 => ?_
    refine ⟨m, ⟨oC, es, ep, held6.1 _ _ bC, dC, kC, lC⟩, fun h7 sb7 => ?_⟩
    have sb7 : Heap.SameBut ce.locals h6 h7 := sb7
    have held7 : Heap.HeldW (PySem.W.hideAll B [ce.locals]) (X.env :: X.outer) e (.ref Cc) a0 X.env.locals h7 := by
      refine bg fun G' g' => ?_
      obtain ⟨k1, k2, k3, oe, vs, T', oT, ts, t1, t2, t3, t4, t5, t6, t7, t8, t9⟩ := held6
      refine g' ?_
      clear g' G'
      have TC : T' ≠ ce.locals := fun z => by
        rw [z, bC] at t5
        cases t5
      have no : ∀ {b}, B.get? b = none → (PySem.W.hideAll B [ce.locals]).get? b = none := fun {b} hb => by
        cases hq : (PySem.W.hideAll B [ce.locals]).get? b with
        | none => rfl
        | some o =>
          rw [PySem.W.of_hideAll _ hq] at hb
          cases hb
      refine ⟨fun b o hb => ?_, no k2, ?_, oe, vs, T', oT, ts, (sb7.2 _ eC).trans t1, t2, t3, t4, no t5, t6, (sb7.2 _ TC).trans t7, t8, t9⟩
      · have hbC : b ≠ ce.locals := fun z => by
          rw [z, PySem.W.hideAll_none _ (List.mem_singleton.mpr rfl)] at hb
          cases hb
        exact (sb7.2 _ hbC).trans (k1 b o (PySem.W.of_hideAll _ hb))
      · have ff : ∀ l : List Env, (∀ env ∈ l, env.frame ≠ some ce.locals) → h6.FunFrames B l → h7.FunFrames (PySem.W.hideAll B [ce.locals]) l := by
          intro l
          induction l with
          | nil => intro _ _; trivial
          | cons env rest ih =>
            intro hne h'
            refine bg fun G' g' => ?_
            obtain ⟨x1, ⟨L, o, x2, x3, x4, x5⟩, x6⟩ := h'
            refine g' ?_
            clear g' G'
            refine ⟨x1, ⟨L, o, x2, no x3, ?_, x5⟩, ih (fun env' he' => hne env' (List.mem_cons_of_mem _ he')) x6⟩
            rw [sb7.2 L fun z => hne env (List.mem_cons_self ..) (by rw [x2, z])]
            exact x4
        refine ff _ (fun env he' z => ?_) k3
        rw [hst] at cfr
        exact cfr (List.mem_filterMap.mpr ⟨env, he', z⟩)
    refine pass_held (by rw [cF]; exact hfr) held7 fun h8 held8 sm8 => ?_
    have hne : ∀ {b o}, s3.heap.get? b = some o → b ∉ [ce.locals] := fun {b o} hb hm => by
      rw [List.mem_singleton] at hm
      rw [hm, cL] at hb
      exact absurd (Heap.lt_size hb) (Nat.lt_irrefl _)
    have IX : Inv X pins σ H5 { s5 with heap := PySem.W.hideAll s5.heap [ce.locals] } := by
      refine I3.call' (s' := { s5 with heap := PySem.W.hideAll s5.heap [ce.locals] }) (ch := fp) J.os ?_ (hok_hide J.hok fun b hb => by rw [List.mem_singleton] at hb; rw [hb]; exact nC) J.bare fun b hb => ⟨(f3 b hb).1.2.2.2.1, (f3 b hb).1.2.1, (f3 b hb).1.2.2.2.2.1, (f3 b hb).1.2.2.2.2.2⟩
      have u : Un (frs X.stack) fp H3 H5 s3.heap s5.heap := J.base
      refine ⟨fun b o e1 e2 e3 e4 => PySem.W.hideAll_get _ (u.keep b o e1 e2 e3 e4) (hne e1), fun b o e1 e2 e3 e4 => ?_, u.free, fun b o e1 e2 => ?_, u.tups, u.frzs, u.tbls⟩
      · obtain ⟨sl, z⟩ := u.slot b o e1 e2 e3 e4
        exact ⟨sl, PySem.W.hideAll_get _ z (hne e1)⟩
      · obtain ⟨o', z⟩ := u.there b o e1 e2
        exact ⟨o', PySem.W.hideAll_get _ z (hne e1)⟩
    refine hp pins σ H5 _ _ _ IX ⟨e, a0, PySem.W.hideAll B [ce.locals], H', rfl, os, bare, by rw [hst]; exact held8, ⟨fun b o e1 e2 e3 => ?_, fun b o e1 e2 => un.free b o (PySem.W.of_hideAll _ e1) e2, fun b o e1 e2 => ?_, un.tups, un.frzs, un.tbls⟩, fun b o e1 e2 => ?_, hok_hide hok fun b hb => ?_, hE⟩
    · have hbC : b ∉ [ce.locals] := fun hm => by
        have e1 : (PySem.W.hideAll s5.heap [ce.locals]).get? b = some o := e1
        rw [PySem.W.hideAll_none _ hm] at e1
        cases e1
      exact PySem.W.hideAll_get _ (un.keep b o (PySem.W.of_hideAll _ e1) e2 e3) hbC
    · have hbC : b ∉ [ce.locals] := fun hm => by
        have e1 : (PySem.W.hideAll s5.heap [ce.locals]).get? b = some o := e1
        rw [PySem.W.hideAll_none _ hm] at e1
        cases e1
      obtain ⟨o', z⟩ := un.there b o (PySem.W.of_hideAll _ e1) e2
      exact ⟨o', PySem.W.hideAll_get _ z hbC⟩
    · obtain ⟨sl1, z1⟩ := slots b o (PySem.W.of_hideAll _ e1) e2
      have hb2 := e2
      rw [hst] at hb2
      refine bg fun G' g' => ?_
      obtain ⟨_, o2, ho2, hd2⟩ := fl.2.2.1.mem hb2
      refine g' ?_
      clear g' G'
      rw [z1] at ho2
      cases ho2
      obtain ⟨sl2, z2⟩ := sm6 b _ z1 hd2
      have hbC : b ≠ ce.locals := fun z => cfr (z ▸ e2)
      obtain ⟨sl3, z3⟩ := sm8 b _ ((sb7.2 b hbC).trans z2) hd2
      exact ⟨sl3, z3⟩
    · rw [List.mem_singleton] at hb
      rw [hb]
      exact un.free _ _ gC nC
  have loop : codeAny (model X.prog X.w) X.A (.compLoop (.ListComp elt [⟨tg, iter, ifs, 0⟩] scope pos) 0 (.ref it) (.ref D) ce) (compPostX (model X.prog X.w) X.A X.xe use Qf (.ref D) ce) s4 := by
    refine compLoop_any (fun n s' => ∃ i H', Inv (X.blk s3 H3 scope ce fp) [] (wipe σ (own.map (·.2))) H' s' ∧ tn i s'.heap ∧ (∀ b ∈ fp, H' b = none) ∧ W i n H') ?_ m0 ⟨0, H3, I4, st4, nfp, w0⟩
    intro n s5 h'
    refine bg fun G' g' => ?_
    obtain ⟨i, H5, I5, st5, n5, w5⟩ := h'
    refine g' ?_
    clear g' G'
    rcases turn i n H5 w5 with ⟨stop, qq⟩ | ⟨go, Nx, hNx, step⟩
    · have td := T.done (X.blk s3 H3 scope ce fp) rfl rfl rfl hc i [] s5 _ H5 (fun _ _ => False) I5 (stat I5 n5) st5 stop
      refine thnF td fun r s6 ⟨hr, I6⟩ => ?_
      subst hr
      -- back in the def's context
      have I7 : Inv X pins σ H5 s6 := I3.call' (ch := fp) I6.os I6.base I6.hok I6.bare fun b hb => ⟨(f3 b hb).1.2.2.2.1, (f3 b hb).1.2.1, (f3 b hb).1.2.2.2.2.1, (f3 b hb).1.2.2.2.2.2⟩
      have nC : H5 s3.heap.objs.size = none := by
        have z : H5 ce.locals = none := I6.free
        rw [cL] at z
        exact z
      refine bg fun G' g' => ?_
      obtain ⟨m, hn, _⟩ := I6.loc
      refine g' ?_
      clear g' G'
      have hn : s6.heap.Ns ce.locals m := hn
      rw [cL] at hn
      have := hRR D s3.heap.objs.size s6 m H5 I7 qq hn (I3.fpOk (Nat.le_refl _) nC)
      rw [← cL] at this
      cases use <;> exact this
    · have ti := T.item (X.blk s3 H3 scope ce fp) rfl rfl rfl hc i [] s5 _ H5 (fun _ _ => False) I5 (stat I5 n5) st5 go
      refine thnF ti fun r s6 ⟨u, hr, h6⟩ => ?_
      subst hr
      refine thnF h6 fun _ s7 ⟨x, H7, I7, r7, y7, st7, n7⟩ => ?_
      have I7' := I7.pinned (stat I7 n7) (T.obj _ _ st7)
      refine thnF (pg _ s7 _ H7 x u _ I7' r7 (step x H7 y7)) fun _ s8 ⟨σ8, H8, I8, hw8, q8⟩ => ?_
      refine thnF (pt _ s8 σ8 H8 _ I8 q8) fun b s9 ⟨H9, I9, q9⟩ => ?_
      -- the turn's end
      have fin : ∀ {s' : Shared} {H' : Hp}, Inv (X.blk s3 H3 scope ce fp) ([] ++ pinsAt fp s7.heap) σ8 H' s' → Nx H' → ∃ m, m < n ∧ ∃ i H', Inv (X.blk s3 H3 scope ce fp) [] (wipe σ (own.map (·.2))) H' s' ∧ tn i s'.heap ∧ (∀ b ∈ fp, H' b = none) ∧ W i m H' := fun {s' H'} I' nx => by
        refine bg fun G' g' => ?_
        obtain ⟨m', hm, w'⟩ := hNx H' nx
        refine g' ?_
        clear g' G'
        have pin' : ∀ b ∈ fp, ∀ o, s7.heap.get? b = some o → s'.heap.get? b = some o ∧ H' b = none := fun b hb o e =>
          let z := I'.pin (b, o) (List.mem_append_right _ (List.mem_append_right _ (mem_pinsAt hb e)))
          ⟨z.1, z.2.1⟩
        have hl : (wipe σ (own.map (·.2))).length = σ8.length := by rw [← hw8, wipe_length]
        refine ⟨m', hm, i + 1, H', (I'.unpinned (pins := [])).weak hl (fun j v e => ?_), T.keep _ _ _ st7 fun b hb o e => (pin' b hb o e).1, fun b hb => ?_, w'⟩
        · rw [← hw8] at e
          exact (wipe_some e).1
        · refine bg fun G' g' => ?_
          obtain ⟨o, e, _⟩ := T.obj _ _ st7 b hb
          refine g' ?_
          clear g' G'
          exact (pin' b hb o e).2
      cases b with
      | false =>
        simp only [Bool.false_eq_true, if_false] at q9 ⊢
        exact fin I9 q9
      | true =>
        simp only [if_true] at q9 ⊢
        refine wpAny_mono (pe _ _ (pass ([] ++ pinsAt fp s7.heap)) [] s9 σ8 H9 _ (I9.tryc _) q9) (fun z s10 hz => ?_) fun _ _ z => z
        refine bg fun G' g' => ?_
        obtain ⟨yv, H10, I10, r10, acc, hD10, hz10, nx⟩ := hz
        refine g' ?_
        clear g' G'
        have I10' : Inv (X.blk s3 H3 scope ce fp) ([] ++ pinsAt fp s7.heap) σ8 H10 s10 := I10.untryc
        exact app_ok (X := X.blk s3 H3 scope ce fp) I10' hD10 hz10 r10 fun s11 I11 => fin I11 nx
  exact codeAny_compStart_list loop (T.self X.A 0 _ _ _ st4 loop)
theorem pe_lcX {elt tg iter : Expr} {ifs : List Expr} {scope : Scope} {own : List (Str × Nat)} {pos : Pos} {wi : TI} {g : TG} {tt : TT} {te : TE} {Cc : Addr} {EX : XK} (hc : X.calm = true) (hN : X.N.Nodup) (hst : X.stack = X.env :: X.outer) (hfr : X.env.frame = some X.env.locals) (hp : PassesH Cc X EX) (hi : PI X tg iter wi) (ok : BlkOk X.N X.env.scope scope own)
    (hg : ∀ (s : Shared) (H : Hp) (C : Addr) (cl : List (Str × Addr)) (fp : List Addr), PG (X.blk s H scope (compEnvC scope cl C X.env) fp) tg g) (ht : ∀ (s : Shared) (H : Hp) (C : Addr) (cl : List (Str × Addr)) (fp : List Addr), PTs (X.blk s H scope (compEnvC scope cl C X.env) fp) ifs tt)
    (he : ∀ (s : Shared) (H : Hp) (C : Addr) (cl : List (Str × Addr)) (fp : List Addr) (pn : List (Addr × Obj)) (E' : Value → Shared → Prop), Passes (CXN X.prog X.w Cc) ((X.blk s H scope (compEnvC scope cl C X.env) fp).tryc pn E') EX → PE ((X.blk s H scope (compEnvC scope cl C X.env) fp).tryc pn E') elt te) (hs : ∀ x, foldedSetIterable iter X.env x = pure x := by intro _; rfl) :
    PE X (.ListComp elt [⟨tg, iter, ifs, 0⟩] scope pos) (tLc wi g tt te (own.map (·.2))) := by
  intro pins s σ H Q I h
  rw [eval_ListComp]
  refine lc_coreX hc hN I hst hfr hp hi ok hg ht he hs h fun D C s' m H' I' q hn f => ⟨m, hn, fun h'' sb => ?_⟩
  refine bg fun G' g' => ?_
  obtain ⟨f0, f1, f2, f3, f4, f5⟩ := f
  refine g' ?_
  clear g' G'
  exact ⟨.ref D, H', I'.turned (t' := s'.toks) (fun b o hb e => (sb.2 b hb).trans e) f0 f1 f3 f4 f5, rfl, q⟩
theorem ps_setLcX {i : Nat} {y : Str} {py : Pos} {elt tg iter : Expr} {ifs : List Expr} {scope : Scope} {own : List (Str × Nat)} {pos spos : Pos} {wi : TI} {g : TG} {tt : TT} {te : TE} {Cc : Addr} {EX : XK} (hc : X.calm = true) (hN : X.N.Nodup) (hst : X.stack = X.env :: X.outer) (hfr : X.env.frame = some X.env.locals) (hp : PassesH Cc X EX) (hy : X.N[i]? = some y) (hyl : X.env.scope.names.lookup y = some .local)
    (hsw : swapsWith (.ListComp elt [⟨tg, iter, ifs, 0⟩] scope pos) (some (.Name y py)) spos.line X.env = pure true) (hi : PI X tg iter wi) (ok : BlkOk X.N X.env.scope scope own)
    (hg : ∀ (s : Shared) (H : Hp) (C : Addr) (cl : List (Str × Addr)) (fp : List Addr), PG (X.blk s H scope (compEnvC scope cl C X.env) fp) tg g) (ht : ∀ (s : Shared) (H : Hp) (C : Addr) (cl : List (Str × Addr)) (fp : List Addr), PTs (X.blk s H scope (compEnvC scope cl C X.env) fp) ifs tt)
    (he : ∀ (s : Shared) (H : Hp) (C : Addr) (cl : List (Str × Addr)) (fp : List Addr) (pn : List (Addr × Obj)) (E' : Value → Shared → Prop), Passes (CXN X.prog X.w Cc) ((X.blk s H scope (compEnvC scope cl C X.env) fp).tryc pn E') EX → PE ((X.blk s H scope (compEnvC scope cl C X.env) fp).tryc pn E') elt te) (hs : ∀ x, foldedSetIterable iter X.env x = pure x := by intro _; rfl) :
    PS X (.Assign [.Name y py] (.ListComp elt [⟨tg, iter, ifs, 0⟩] scope pos) spos) (tAsg (tLc wi g tt te (own.map (·.2))) (gName i)) := by
  intro pins s σ H D I h
  rw [exec_Assign_Name_used _ _ _ _ hsw]
  refine wpAny_bind (wpAny_standAt (wpAny_bind ?_))
  show wpAny _ X.A (do let _ ← comprehension (.ListComp elt [⟨tg, iter, ifs, 0⟩] scope pos) scope X.env (firstIterPos [⟨tg, iter, ifs, 0⟩] pos) (newList []) false (eval iter X.env) (some (assign (.Name y py) X.env))) _ _ s
  have h : tLc wi g tt te (own.map (·.2)) σ H (fun x H1 => gName i x σ H1 D.nx) := h
  refine wpAny_bind (thn (lc_coreX (Qf := fun _ s' => SP X pins D .next s') hc hN I hst hfr hp hi ok hg ht he hs h fun L C s' m H' I' q hn f => ?_) fun _ s' hq => wpAny_pure (wpAny_pure hq))
  show wpAny _ _ (assign (.Name y py) X.env (.ref L)) _ _ _
  refine wpAny_assign_Name (store_ok2 (v := V.ref L) I' hN hy (.inl hyl) rfl (fun s2 I2 ⟨a, sb, ha⟩ => ?_) (.inr hyl))
  refine bg fun G' g' => ?_
  obtain ⟨f0, f1, f2, f3, f4, f5⟩ := f
  refine g' ?_
  clear g' G'
  have haC : C ≠ a := by
    rcases ha with z | z
    · rw [z]; exact f1
    · exact fun e => f4 y a z e.symm
  refine ⟨m, hn.sameBut sb haC, fun h3 sb3 => ?_⟩
  exact ⟨_, H', I2.turned (t' := s2.toks) (fun b o hb e => (sb3.2 b hb).trans e) f0 f1 f3 f4 f5, q⟩
end
end L2

set_option Elab.async false
set_option maxRecDepth 100000
set_option linter.all false
namespace L2
open PySem PySem.Spec
open PyProof.Rows hiding St
def Fld2 (h : Heap) (e : Addr) (v : Value) : Prop := ∃ oe vs, h.get? e = some oe ∧ oe.data = .fields vs ∧ vs[2]? = some v
theorem Fld2.keeps {h h' : Heap} {e : Addr} {v : Value} (x : Fld2 h e v) (k : ∀ b o, h.get? b = some o → h'.get? b = some o) : Fld2 h' e v := let ⟨oe, vs, a, b, c⟩ := x; ⟨oe, vs, k _ _ a, b, c⟩
section
variable {M : Model} {A : Around} {E : Value → Shared → Prop} {s : Shared}
theorem flight2 {base : Heap} {l : List Env} {e : Addr} {cls a0 fl c : Value} {v : Option Addr} {Q : Unit → Shared → Prop} (hkb : base.StaysIn s.heap) (hl : s.heap.FunFrames base l) (ht : s.heap.TracedAtW base e cls a0 fl) (hc : Fld2 s.heap e c)
    (hQ : ∀ h', base.StaysIn h' → h'.FunFrames base l → h'.TracedAtW base e cls a0 (v.elim .none fun f => rawInt f) → Fld2 h' e c → s.heap.UpToSlots h' → Q () { s with heap := h' }) : wpAny M A (setFlight (.ref e) v) Q E s := by
  refine bg fun G' g' => ?_
  obtain ⟨oe, vs, T, oT, ts, he, hcls, hd, h1, hnT, hTe, hT, hdT, h3⟩ := ht
  refine g' ?_
  clear g' G'
  have sz : 3 < ts.size := (Array.getElem?_eq_some_iff.mp h3).1
  generalize hv : (v.elim Value.none fun f => rawInt f) = vv at hQ
  have oth : ∀ b, b ≠ T → (s.heap.update T (Obj.mapFields (·.setIfInBounds 3 vv))).get? b = s.heap.get? b := fun b hb => Heap.get?_update_other _ _ (Ne.symm hb)
  have nr : ∀ b o, s.heap.get? b = some o → (∀ ws, o.data ≠ .fields ws) → b ≠ T := fun b o hb hn z => by
    rw [z, hT] at hb
    cases hb
    exact hn _ hdT
  unfold setFlight
  rw [hv]
  refine wpAny_bind (wpAny_field he hd h1 ?_)
  rw [if_pos (show (Value.ref T != Value.none) = true by simp)]
  refine wpAny_setField hT hdT sz (hQ _ ?_ ?_ ?_ ?_ ?_)
  · intro b o hb
    rw [oth b fun z => by rw [z, hnT] at hb; cases hb]
    exact hkb b o hb
  · exact hl.of_keeps fun b o hb hn => ⟨o, (oth b (nr b o hb hn)).trans hb, rfl⟩
  · exact ⟨oe, vs, T, _, _, (oth e (Ne.symm hTe)).trans he, hcls, hd, h1, hnT, hTe, Heap.get?_update_self _ hT (Obj.isFreed_of_fields (Obj.data_mapFields hdT _)), Obj.data_mapFields hdT _, by simp [sz]⟩
  · refine bg fun G' g' => ?_
    obtain ⟨o, ws, x1, x2, x3⟩ := hc
    refine g' ?_
    clear g' G'
    rw [he] at x1
    cases x1
    exact ⟨oe, ws, (oth e (Ne.symm hTe)).trans he, x2, x3⟩
  · exact fun b o hb hn => ⟨o.slots, (oth b (nr b o hb hn)).trans hb⟩
theorem entry2 {base : Heap} {env : Env} {outer : List Env} {L e : Addr} {oe : Obj} {vs : Array Value} {head a0 c : Value} {had : Bool} {Q : Unit → Shared → Prop}
    (hfr : A.frames = some (env :: outer)) (hl : s.heap.FunFrames base (env :: outer)) (hf : env.frame = some L) (he : s.heap.get? e = some oe) (hkb : base.StaysIn s.heap) (hen : base.get? e = none) (hd : oe.data = .fields vs) (hsz : 1 < vs.size) (h0 : vs[0]? = some a0) (h2 : vs[2]? = some c)
    (hQ : ∀ h', Heap.HeldW base (env :: outer) e oe.cls a0 L h' → Fld2 h' e c → s.heap.UpToSlots h' → Q () { s with heap := h' }) :
    wpAny M A (do let a ← frameOf env; let pl ← entryPlaceOf L had; let b ← EntryCells.newEntry head a .none (rawInt L) .none pl; setField (.ref e) 1 b) Q E s := by
  have efr : e ∉ (env :: outer).filterMap (·.frame) := fun hm => by
    refine bg fun G' g' => ?_
    obtain ⟨_, o, ho, hn⟩ := hl.mem hm
    refine g' ?_
    clear g' G'
    rw [he] at ho
    cases ho
    exact hn vs hd
  refine wpAny_bind (wpAny_frameOf_fun hfr hl hf fun h1 so => ?_)
  refine wpAny_bind (wpAny_entryPlaceOf fun pl hpl => ?_)
  unfold EntryCells.newEntry newFields
  refine wpAny_bind (wpAny_newObj_type ?_ (hpl.sizeOk5 _ _ _ _ _))
  generalize hOb : ({ cls := .type "traceback", dict := none, data := .fields ([head, .ref L, .none, rawInt L, .none] ++ (if pl.isEmpty then List.replicate 6 Value.none else pl)).toArray } : Obj) = ob
  have e1 : h1.get? e = some oe := (so.2.1 e efr).trans he
  have e2 : (h1.push ob).get? e = some oe := Heap.get?_push_of_some _ e1
  have Te : h1.objs.size ≠ e := Nat.ne_of_gt (Heap.lt_size e1)
  have d3 := Obj.data_mapFields hd (·.setIfInBounds 1 (Value.ref h1.objs.size))
  have e3 := Heap.get?_update_self (Obj.mapFields (·.setIfInBounds 1 (Value.ref h1.objs.size))) e2 (Obj.isFreed_of_fields d3)
  have T3 : ((h1.push ob).update e (Obj.mapFields (·.setIfInBounds 1 (Value.ref h1.objs.size)))).get? h1.objs.size = some ob :=
    (Heap.get?_update_other _ _ (Ne.symm Te)).trans (Heap.get?_push_size h1 (by rw [← hOb]; rfl))
  have keep : ∀ b o, b ≠ e → h1.get? b = some o → ((h1.push ob).update e (Obj.mapFields (·.setIfInBounds 1 (Value.ref h1.objs.size)))).get? b = some o := fun b o hb q =>
    (Heap.get?_update_other _ _ (Ne.symm hb)).trans (Heap.get?_push_of_some _ q)
  have nr : ∀ b o, s.heap.get? b = some o → (∀ ws, o.data ≠ .fields ws) → b ≠ e := fun b o hb hn z => by
    rw [z, he] at hb
    cases hb
    exact hn _ hd
  have kb : base.StaysIn h1 := fun b o hb => (so.2.1 b fun hm => by rw [(hl.mem hm).1] at hb; cases hb).trans (hkb b o hb)
  have up : s.heap.UpToSlots ((h1.push ob).update e (Obj.mapFields (·.setIfInBounds 1 (Value.ref h1.objs.size)))) := fun b o hb hn => by
    obtain ⟨sl, z⟩ := so.2.2 b o hb
    exact ⟨sl, keep b _ (nr b o hb hn) z⟩
  refine wpAny_setField e2 hd hsz (hQ _ ⟨fun b o hb => keep b o (fun z => by rw [z, hen] at hb; cases hb) (kb b o hb), hen, hl.of_keeps fun b o hb hn => ?_, ?_⟩ ⟨_, _, e3, d3, ?_⟩ up)
  · obtain ⟨sl, z⟩ := up b o hb hn
    exact ⟨_, z, rfl⟩
  · refine ⟨_, _, h1.objs.size, _, _, e3, ⟨Obj.cls_mapFields _ _, ?_⟩, d3, by simp [hsz], kb.fresh, Te, T3, by rw [← hOb], ?_⟩
    · rw [Array.getElem?_setIfInBounds_ne (by decide)]
      exact h0
    · simp
  · rw [Array.getElem?_setIfInBounds_ne (by decide)]
    exact h2
theorem note2 {base : Heap} {env : Env} {outer : List Env} {L e : Addr} {oe : Obj} {vs : Array Value} {a0 c : Value} {Q : Unit → Shared → Prop}
    (hfr : A.frames = some (env :: outer)) (hl : s.heap.FunFrames base (env :: outer)) (hf : env.frame = some L) (he : s.heap.get? e = some oe) (hkb : base.StaysIn s.heap) (hen : base.get? e = none) (hd : oe.data = .fields vs) (h0 : vs[0]? = some a0) (h2 : vs[2]? = some c)
    (h1 : vs[1]? = some .none ∨ s.heap.TracedW base e oe.cls a0)
    (hQ : ∀ h', Heap.HeldW base (env :: outer) e oe.cls a0 L h' → Fld2 h' e c → s.heap.UpToSlots h' → Q () { s with heap := h' }) : wpAny M A (noteFrame (.ref e) env) Q E s := by
  have hsz : 1 < vs.size := by
    have := (Array.getElem?_eq_some_iff.mp h2).1
    omega
  unfold noteFrame
  simp only [hf]
  rcases h1 with h1 | ⟨oe', vs', T, oT, ts, he', _, hd', h1, hnT, hTe, hT, hdT, h3⟩
  · refine wpAny_bind (wpAny_field he hd h1 ?_)
    rw [if_neg (by decide)]
    exact entry2 hfr hl hf he hkb hen hd hsz h0 h2 hQ
  · rw [he] at he'
    cases he'
    rw [hd] at hd'
    cases hd'
    refine wpAny_bind (wpAny_field he hd h1 ?_)
    rw [if_pos (show (Value.ref T != Value.none) = true by simp)]
    refine wpAny_bind (wpAny_field hT hdT h3 ?_)
    rw [if_neg (show ¬ ((Value.none == rawInt L) = true) by simp [rawInt])]
    refine wpAny_bind (wpAny_setField hT hdT (Array.getElem?_eq_some_iff.mp h3).1 ?_)
    have oth : ∀ b, b ≠ T → (s.heap.update T (Obj.mapFields (·.setIfInBounds 3 Value.none))).get? b = s.heap.get? b := fun b hb => Heap.get?_update_other _ _ (Ne.symm hb)
    have nr : ∀ b o, s.heap.get? b = some o → (∀ ws, o.data ≠ .fields ws) → b ≠ T := fun b o hb hn z => by
      rw [z, hT] at hb
      cases hb
      exact hn _ hdT
    refine entry2 (s := { s with heap := s.heap.update T (Obj.mapFields (·.setIfInBounds 3 Value.none)) }) hfr (hl.of_keeps fun b o hb hn => ⟨o, (oth b (nr b o hb hn)).trans hb, rfl⟩) hf ((oth e (Ne.symm hTe)).trans he) (fun b o hb => (oth b fun z => by rw [z, hnT] at hb; cases hb).trans (hkb b o hb)) hen hd hsz h0 h2 fun h' x1 x2 x3 => hQ h' x1 x2 fun b o hb hn => x3 b o ((oth b (nr b o hb hn)).trans hb) hn
theorem note2F {base : Heap} {env : Env} {outer : List Env} {L e : Addr} {cls a0 c : Value} {Q : Unit → Shared → Prop} (hfr : A.frames = some (env :: outer)) (hf : env.frame = some L) (hfl : Heap.FlyingW base (env :: outer) e cls a0 s.heap) (hc : Fld2 s.heap e c)
    (hQ : ∀ h', Heap.HeldW base (env :: outer) e cls a0 L h' → Fld2 h' e c → s.heap.UpToSlots h' → Q () { s with heap := h' }) : wpAny M A (noteFrame (.ref e) env) Q E s := by
  refine bg fun G' g' => ?_
  obtain ⟨f1, f2, f3, f4⟩ := hfl
  refine g' ?_
  clear g' G'
  refine bg fun G' g' => ?_
  obtain ⟨oe, vs, y1, y2, y3⟩ := hc
  refine g' ?_
  clear g' G'
  refine bg fun G' g' => ?_
  obtain ⟨oe', vs', T, oT, ts, he', ⟨q1, q2⟩, hd', r⟩ := id f4
  refine g' ?_
  clear g' G'
  rw [y1] at he'
  cases he'
  rw [y2] at hd'
  cases hd'
  subst q1
  exact note2 hfr f3 hf y1 f1 f2 y2 q2 y3 (.inr f4) hQ
theorem land2 {base : Heap} {l : List Env} {e L : Addr} {cls a0 c : Value} {Q : Unit → Shared → Prop} (hh : Heap.HeldW base l e cls a0 L s.heap) (hc : Fld2 s.heap e c)
    (hQ : ∀ h', Heap.FlyingW base l e cls a0 h' → Fld2 h' e c → s.heap.UpToSlots h' → Q () { s with heap := h' }) : wpAny M A (setFlight (.ref e) none) Q E s :=
  flight2 (v := none) hh.1 hh.2.2.1 hh.2.2.2 hc fun h' k1 k2 k3 k4 k5 => hQ h' ⟨k1, hh.2.1, k2, k3⟩ k4 k5
theorem again2 {base : Heap} {l : List Env} {e : Addr} {cls a0 c : Value} {Q : Unit → Shared → Prop} (hh : Heap.FlyingW base l e cls a0 s.heap) (hc : Fld2 s.heap e c)
    (hQ : ∀ h', Heap.FlyingW base l e cls a0 h' → Fld2 h' e c → s.heap.UpToSlots h' → Q () { s with heap := h' }) : wpAny M A (setFlight (.ref e) none) Q E s :=
  flight2 (v := none) hh.1 hh.2.2.1 hh.2.2.2.at hc fun h' k1 k2 k3 k4 k5 => hQ h' ⟨k1, hh.2.1, k2, k3⟩ k4 k5
theorem leave2 {base : Heap} {env : Env} {outer : List Env} {L e : Addr} {cls a0 c : Value} {Q : Unit → Shared → Prop} (hfr : A.frames = some (env :: outer)) (hf : env.frame = some L) (hfl : Heap.FlyingW base (env :: outer) e cls a0 s.heap) (hc : Fld2 s.heap e c)
    (hQ : ∀ h', Heap.FlyingW base outer e cls a0 h' → Fld2 h' e c → s.heap.UpToSlots h' → Q () { s with heap := h' }) : wpAny M A (leaving env (.ref e)) Q E s := by
  unfold leaving
  refine wpAny_bind (note2F hfr hf hfl hc fun h1 x1 x2 x3 => ?_)
  exact land2 x1 x2 fun h2 y1 y2 y3 => hQ h2 ⟨y1.1, y1.2.1, y1.2.2.1.2.2, y1.2.2.2⟩ y2 (x3.trans y3)
theorem leave2made {base h : Heap} {env : Env} {outer : List Env} {L e : Addr} {cls : Value} {args : List Value} {Q : Unit → Shared → Prop} (hfr : A.frames = some (env :: outer)) (hf : env.frame = some L) (hkb : base.StaysIn h) (hl : h.FunFrames base (env :: outer)) (hx : Heap.MadeExcOf h s.heap e cls args)
    (hQ : ∀ h' a0, Heap.FlyingW base outer e cls a0 h' → Fld2 h' e .none → s.heap.UpToSlots h' → Q () { s with heap := h' }) : wpAny M A (leaving env (.ref e)) Q E s := by
  refine bg fun G' g' => ?_
  obtain ⟨t, he, htn, ht⟩ := hx.there
  refine g' ?_
  clear g' G'
  have en : base.get? e = none := by
    cases hq : base.get? e with
    | none => rfl
    | some o =>
      have := hkb e o hq
      rw [hx.new] at this
      cases this
  unfold leaving
  refine wpAny_bind (note2 (base := base) (oe := { cls := cls, data := .fields #[.ref t, .none, .none, .none, .bool false, .none] }) hfr (hl.of_keeps fun b o hb _ => ⟨o, hx.keeps b o hb, rfl⟩) hf he (fun b o hb => hx.keeps b o (hkb b o hb)) en rfl rfl rfl (.inl rfl) fun h1 x1 x2 x3 => ?_)
  exact land2 x1 x2 fun h2 y1 y2 y3 => hQ h2 _ ⟨y1.1, y1.2.1, y1.2.2.1.2.2, y1.2.2.2⟩ y2 (x3.trans y3)
end
def CXY (P : Program) (w : World) (T : Addr) : CXT := fun outer H s E ev s' => ∃ (e : Addr) (a0 : Value) (B : Heap) (H' : Hp), ev = .ref e ∧ s'.os = s.os ∧ AllBare s'.gens ∧ Heap.FlyingW B outer e (.ref T) a0 s'.heap ∧
  UnB (frs outer) H H' s.heap B ∧ (∀ b o, s.heap.get? b = some o → b ∈ frs outer → ∃ sl, s'.heap.get? b = some { o with slots := sl }) ∧ HOk P w H' B ∧ E (.ref T) none H' ∧ Fld2 s'.heap e .none
def CXG (P : Program) (w : World) (T C : Addr) : CXT := fun outer H s E ev s' => CXN P w C outer H s E ev s' ∨ CXY P w T outer H s E ev s'
section
variable {P : Program} {w : World} {K : PySem.W.Frag} {mg : Str → Option Value} {base : Heap} {N : List Str} {qual : Str} {scope : Scope} {f : Addr} {cd : Value} {A : Around} {outer : List Env} {s : Shared} {H : Hp} {E : XK} {C T : Addr}
theorem ps_raiseY {x : Str} {np cpos pos : Pos} (XC : XCls K T) (hg : Gl (cxOf (CXY P w T) P w K mg base N qual scope f cd A outer s H E) x) (hm : mg x = some (.ref T)) (hdb : (x == ("__debug__" : Str)) = false := by decide) :
    PS (cxOf (CXY P w T) P w K mg base N qual scope f cd A outer s H E) (.Raise (some (.Call (.Name x np) [] [] cpos)) none pos) (fun _ _ H' => E (.ref T) none H') := by
  intro pins s1 σ H1 D I h
  refine bg fun G' g' => ?_
  obtain ⟨nm, q, Nn, bs, hdct, sn, sub, ab, col, dd, k0, k1, k2, k3, k5, lC, oN, es, ep, lN, dN, sk, ni⟩ := XC.ex
  refine g' ?_
  clear g' G'
  have hC := I.kIn T _ lC
  have hN : s1.heap.Ns Nn (fun name => nsFind es name) := ⟨oN, es, ep, I.kIn Nn _ lN, dN, sk, fun _ => rfl⟩
  have h' : E (.ref T) none H1 := h
  refine wpAny_Raise_call_sub (nm := nm) (q := q) (C := T) (N := Nn) (bs := bs) (hdct := hdct) (sn := sn) (sub := sub) (ab := ab) (col := col) (dd := dd) (k0 := k0) (k1 := k1) (k2 := k2) (k3 := k3) (k5 := k5) PySem.F.excBase_Exception (I.ok.hd rfl) rfl ni (ld_glob I hg hm ⟨rfl, ?_⟩ hdb)
  refine PyProof.Rows.evalArgs_nil3 ⟨rfl, Nat.zero_le _, hC, hN, fun h2 e hx => ?_⟩
  obtain ⟨X, eX⟩ : ∃ X, X = cxOf (CXY P w T) P w K mg base N qual scope f cd A outer s H E := ⟨_, rfl⟩
  have hst : X.stack = X.env :: X.outer := by rw [eX]; rfl
  have hfr : X.env.frame = some X.env.locals := by rw [eX]; rfl
  have hxe : X.ex = [] := by rw [eX]; rfl
  have hH : X.H₀ = H := by rw [eX]; rfl
  have hou : X.outer = outer := by rw [eX]; rfl
  have hs0 : X.s₀ = s := by rw [eX]; rfl
  have goal : X.xe (.ref e) { s1 with heap := h2 } := by
    rw [← eX] at I
    have hF := I.stack
    have hin : ∀ env ∈ X.stack, ∀ b, env.frame = some b → b ∈ frs X.stack := fun env he b hb => List.mem_filterMap.mpr ⟨env, he, hb⟩
    have fr := I.ok.frames
    have fh := PySem.W.funFrames_hide hF hin
    have aft : ∀ h3 a0, Heap.FlyingW (PySem.W.hideAll s1.heap (frs X.stack)) X.outer e (.ref T) a0 h3 → Fld2 h3 e .none → h2.UpToSlots h3 → CXY P w T X.outer X.H₀ X.s₀ E (.ref e) { s1 with heap := h3 } := fun h3 a0 x1 x2 x4 => by
      refine ⟨e, a0, _, H1, rfl, I.os, I.bare, x1, ⟨fun b o eb n hb => ?_, fun b o eb n => I.base.free b o eb n (by simp [hxe]), fun b o eb hb => ?_, I.base.tups, I.base.frzs, I.base.tbls⟩, fun b o eb hb => ?_, ?_, h', x2⟩
      · exact PySem.W.hideAll_get _ (I.base.keep b o eb n hb (by simp [hxe])) fun hm' => by
          rcases (mem_stack hst hfr).mp hm' with z | z
          · exact old_ne I eb z
          · exact hb z
      · obtain ⟨o', e'⟩ := I.base.there b o eb (by simp [hxe])
        exact ⟨o', PySem.W.hideAll_get _ e' fun hm' => by
          rcases (mem_stack hst hfr).mp hm' with z | z
          · exact old_ne I eb z
          · exact hb z⟩
      · obtain ⟨sl, e1⟩ := I.base.slot b o eb (I.ok.frf b hb) hb (by simp [hxe])
        refine bg fun G' g' => ?_
        obtain ⟨_, o2, ho2, hd2⟩ := hF.mem ((mem_stack hst hfr).mpr (.inr hb))
        refine g' ?_
        clear g' G'
        rw [e1] at ho2
        cases ho2
        obtain ⟨sl', e3⟩ := x4 b _ (hx.keeps b _ e1) hd2
        exact ⟨sl', e3⟩
      · have hk := hok_hide I.hok I.stkFree
        rw [eX] at hk ⊢
        exact hk
    rw [hst] at fh fr
    rw [eX] at fr fh aft ⊢
    exact leave2made (base := PySem.W.hideAll s1.heap (frs (cxOf (CXY P w T) P w K mg base N qual scope f cd A outer s H E).stack)) (h := s1.heap) fr rfl (fun b o q => PySem.W.of_hideAll _ q) fh hx fun h3 a0 x1 x2 x4 => aft h3 a0 x1 x2 x4
  rw [eX] at goal
  exact goal
theorem pass_onY : Passes (CXY P w T) (cxOf (CXY P w T) P w K mg base N qual scope f cd A outer s H E) E := by
  intro pins σ H1 s1 ev s' I cx
  refine bg fun G' g' => ?_
  obtain ⟨e, a0, B, H', rfl, os, bare, fl, un, slots, hok, hE, hc⟩ := cx
  refine g' ?_
  clear g' G'
  have hst : (cxOf (CXY P w T) P w K mg base N qual scope f cd A outer s H E).stack = (cxOf (CXY P w T) P w K mg base N qual scope f cd A outer s H E).env :: (cxOf (CXY P w T) P w K mg base N qual scope f cd A outer s H E).outer := rfl
  have hfr : (cxOf (CXY P w T) P w K mg base N qual scope f cd A outer s H E).env.frame = some (cxOf (CXY P w T) P w K mg base N qual scope f cd A outer s H E).env.locals := rfl
  refine leave2 I.ok.frames hfr fl hc fun h2 x1 x3 x2 => ?_
  refine ⟨e, a0, B, H', rfl, os.trans I.os, bare, x1, ⟨fun b o eb n hb => ?_, fun b o eb n => ?_, fun b o eb hb => ?_, fun b xs q => un.tups b xs (I.base.tups b xs q), fun b o u q => un.frzs b o u (I.base.frzs b o u q), fun b ps q => ?_⟩, fun b o eb hb => ?_, hok, hE, x3⟩
  · exact un.keep b o (I.base.keep b o eb n hb (by simp [cxOf])) (I.base.free b o eb n (by simp [cxOf])) fun hm' => by
      rcases (mem_stack hst hfr).mp hm' with z | z
      · exact old_ne I eb z
      · exact hb z
  · obtain ⟨o', e'⟩ := I.base.there b o eb (by simp [cxOf])
    exact un.free b o' e' (I.base.free b o eb n (by simp [cxOf]))
  · obtain ⟨o', e'⟩ := I.base.there b o eb (by simp [cxOf])
    exact un.there b o' e' fun hm' => by
      rcases (mem_stack hst hfr).mp hm' with z | z
      · exact old_ne I eb z
      · exact hb z
  · obtain ⟨m1, e1⟩ := I.base.tbls b ps q
    obtain ⟨m2, e2⟩ := un.tbls b _ e1
    exact ⟨m1 ++ m2, by rw [e2, Array.append_assoc]⟩
  · have hnone : H b = none := I.ok.frf b hb
    obtain ⟨sl, e1⟩ := I.base.slot b o eb hnone hb (by simp [cxOf])
    obtain ⟨sl1, e2⟩ := slots b _ e1 ((mem_stack hst hfr).mpr (.inr hb))
    refine bg fun G' g' => ?_
    obtain ⟨_, o2, ho2, hd2⟩ := fl.2.2.1.mem ((mem_stack hst hfr).mpr (.inr hb))
    refine g' ?_
    clear g' G'
    rw [e2] at ho2
    cases ho2
    obtain ⟨sl', e3⟩ := x2 b _ e2 hd2
    exact ⟨sl', e3⟩
theorem ps_raiseG {x : Str} {np cpos pos : Pos} (XC : XCls K C) (hg : Gl (cxOf (CXG P w T C) P w K mg base N qual scope f cd A outer s H E) x) (hm : mg x = some (.ref C)) (hdb : (x == ("__debug__" : Str)) = false := by decide) :
    PS (cxOf (CXG P w T C) P w K mg base N qual scope f cd A outer s H E) (.Raise (some (.Call (.Name x np) [] [] cpos)) none pos) (fun _ _ H' => E (.ref C) none H') := by
  intro pins s1 σ H1 D I h
  have := ps_raise (P := P) (w := w) (base := base) (N := N) (qual := qual) (scope := scope) (f := f) (cd := cd) (A := A) (outer := outer) (s := s) (H := H) (E := E) (np := np) (cpos := cpos) (pos := pos) XC hg hm hdb pins s1 σ H1 D I.toN h
  refine wpAny_mono this (fun fl s2 q => ?_) (xe_sub fun ev s' q => .inl q)
  cases fl with
  | next => obtain ⟨σ', H2, J, q⟩ := q; exact ⟨σ', H2, J.toN, q⟩
  | brk => obtain ⟨σ', H2, J, q⟩ := q; exact ⟨σ', H2, J.toN, q⟩
  | cont => obtain ⟨σ', H2, J, q⟩ := q; exact ⟨σ', H2, J.toN, q⟩
  | ret u => obtain ⟨v, σ', H2, J, rv, q⟩ := q; exact ⟨v, σ', H2, J.toN, rv, q⟩
theorem pass_inG : Passes (CXN P w C) (cxOf (CXG P w T C) P w K mg base N qual scope f cd A outer s H E) E := by
  intro pins σ H1 s1 ev s' I cx
  exact xe_sub (fun ev s' q => .inl q) ev s' (pass_on (P := P) (w := w) (K := K) (mg := mg) (base := base) (N := N) (qual := qual) (scope := scope) (f := f) (cd := cd) (A := A) (outer := outer) (s := s) (H := H) (E := E) pins σ H1 s1 ev s' I.toN cx)
theorem pass_inGY : Passes (CXY P w T) (cxOf (CXG P w T C) P w K mg base N qual scope f cd A outer s H E) E := by
  intro pins σ H1 s1 ev s' I cx
  exact xe_sub (fun ev s' q => .inr q) ev s' (pass_onY (P := P) (w := w) (K := K) (mg := mg) (base := base) (N := N) (qual := qual) (scope := scope) (f := f) (cd := cd) (A := A) (outer := outer) (s := s) (H := H) (E := E) pins σ H1 s1 ev s' I.toN cx)
end
end L2

set_option Elab.async false
set_option maxRecDepth 100000
set_option linter.all false
namespace L2
open PySem PySem.Spec
open PyProof.Rows hiding St
theorem entry_unchain : entryFor table "proto.unchain" = some Builtin.«proto.unchain» := entryFor_of_tree (by kernel_rfl)
section
variable {prog : Program} {w : World} {A : Around} {E : Value → Shared → Prop} {s : Shared} {env : Env}
theorem raiseNew_in {α : Type} {e e0 : Addr} {oe : Obj} {vs : Array Value} {Q : α → Shared → Prop} (hh : A.handled = some (.ref e0)) (hne : e0 ≠ e) (h0 : Fld2 s.heap e0 .none) (he : s.heap.get? e = some oe) (hd : oe.data = .fields vs) (hsz : 2 < vs.size)
    (hE : E (.ref e) { s with heap := s.heap.update e (Obj.mapFields (·.setIfInBounds 2 (.ref e0))) }) : wpAny (model prog w) A (raiseNew (.ref e) : Sem α) Q E s := by
  refine bg fun G' g' => ?_
  obtain ⟨o0, v0, x1, x2, x3⟩ := h0
  refine g' ?_
  clear g' G'
  unfold raiseNew
  refine wpAny_bind (wpAny_handled ?_)
  rw [hh]
  try dsimp only
  rw [if_pos (show (Value.ref e0 != Value.ref e) = true by simp [hne])]
  refine wpAny_bind (wpAny_holding (wpAny_runValue (codeAny_builtin entry_unchain ?_)))
  unfold Builtin.«proto.unchain»
  try dsimp only
  refine wpAny_bind (wpAny_field x1 x2 x3 ?_)
  rw [if_pos (by decide)]
  refine wpAny_bind (wpAny_pure (wpAny_pure ?_))
  show wpAny _ _ _ _ _ _
  unfold updateField
  refine wpAny_bind (wpAny_bind (wpAny_load he ?_))
  rw [hd]
  try dsimp only
  rw [if_pos hsz]
  exact wpAny_update he (wpAny_throw hE)
theorem raiseStmt_in {nm q : Str} {C N : Addr} {bs bm : List Value} {hdct : Bool} {sn : List Str} {sub : List Value} {ab : Bool} {col : Option Bool} {dd : Option Addr} {k0 k1 k2 k3 k5 : Option Value} {newId : String} {x : Sem Value} {e0 : Addr} {Q : Flow → Shared → Prop}
    (hbase : bm.contains (.type "BaseException") = true) (hh : A.handled = some (.ref e0))
    (h : wpAny (model prog w) A x (fun v s₁ => ∃ e t, v = .ref e ∧ s₁.heap.get? C = some (excClassObj nm q C N bs bm hdct sn sub ab col dd k0 k1 k2 k3 k5 newId) ∧ s₁.heap.get? e = some { cls := .ref C, data := .fields #[.ref t, .none, .none, .none, .bool false, .none] } ∧
      e0 ≠ e ∧ Fld2 s₁.heap e0 .none ∧ E (.ref e) { s₁ with heap := s₁.heap.update e (Obj.mapFields (·.setIfInBounds 2 (.ref e0))) }) E s) :
    wpAny (model prog w) A (raiseStmt env (some x) none) Q E s := by
  have hcB : (Value.ref C :: bm).contains (.type "BaseException") = true := by rw [List.contains_cons, hbase, Bool.or_true]
  unfold raiseStmt
  refine wpAny_bind (wpAny_mono h (fun v s₁ h₁ => ?_) fun _ _ x => x)
  refine bg fun G' g' => ?_
  obtain ⟨e, t, rfl, hC, he, hne, h0, hE⟩ := h₁
  refine g' ?_
  clear g' G'
  refine bg fun G' g' => ?_
  obtain ⟨hp, g, d, tk, os⟩ := s₁
  refine g' ?_
  clear g' G'
  repeat (first | with_reducible refine wpAny_loadPart_at he ?_ | with_reducible refine wpAny_loadPart_at hC ?_ | (with_reducible refine wpAny_isSubtype_exc hC ?_; rw [hcB]) | wp_step)
  exact raiseNew_in hh hne h0 he rfl (by show 2 < 6; decide) hE
theorem Raise_in {nm q : Str} {C N : Addr} {bs bm : List Value} {hdct : Bool} {sn : List Str} {sub : List Value} {ab : Bool} {col : Option Bool} {dd : Option Addr} {k0 k1 k2 k3 k5 : Option Value} {B newId initId : String} {e0 : Addr} (F : ExcBaseFacts B newId initId bm) {mN : Str → Option Value} {x : Str} {np cpos pos : Pos} {Q : Flow → Shared → Prop}
    (hh : A.handled = some (.ref e0)) (hni : mN "__init__" = none)
    (h : wpAny (model prog w) A (eval (.Name x np) env) (fun f s₁ => f = .ref C ∧ s₁.heap.get? C = some (excClassObj nm q C N bs bm hdct sn sub ab col dd k0 k1 k2 k3 k5 newId) ∧ s₁.heap.Ns N mN ∧ Fld2 s₁.heap e0 .none ∧
        ∀ h' e, Heap.MadeExcOf s₁.heap h' e (.ref C) [] → E (.ref e) { s₁ with heap := h'.update e (Obj.mapFields (·.setIfInBounds 2 (.ref e0))) }) E s) :
    wpAny (model prog w) A (exec (.Raise (some (.Call (.Name x np) [] [] cpos)) none pos) env) Q E s := by
  rw [arm_exec_Raise]
  simp only [evalOpt, Option.map]
  refine wpAny_bind (wpAny_standAt (raiseStmt_in (C := C) (nm := nm) (q := q) (N := N) (bs := bs) (bm := bm) (hdct := hdct) (sn := sn) (sub := sub) (ab := ab) (col := col) (dd := dd) (k0 := k0) (k1 := k1) (k2 := k2) (k3 := k3) (k5 := k5) (newId := newId) F.hasBase hh ?_))
  refine wpAny_bind (wpAny_mono (wpAny_Call_ofName (wpAny_mono h (fun f s₁ h₁ => ?_) fun _ _ x => x)) (fun v s₃ h₃ => wpAny_bind (wpAny_standAt (wpAny_pure h₃))) fun _ _ x => x)
  refine bg fun G' g' => ?_
  obtain ⟨rfl, hC, hn, h0, hE⟩ := h₁
  refine g' ?_
  clear g' G'
  unfold callWith
  refine wpAny_bind (wpAny_holding (PyProof.Rows.evalArgs_nil3 (wpAny_bind (wpAny_standAt ?_))))
  refine bg fun G' g' => ?_
  obtain ⟨hp, g, d, tk, os⟩ := s₁
  refine g' ?_
  clear g' G'
  refine wpAny_bind (wpAny_keeperOf_exc hC ?_)
  refine wpAny_bind (wpAny_call_exc_sub F hC hn hni fun h' e hm => wpAny_bind (wpAny_holding (wpAny_point (wpAny_pure ?_))))
  refine bg fun G' g' => ?_
  obtain ⟨t, ht, _, _⟩ := hm.there
  refine g' ?_
  clear g' G'
  refine ⟨e, t, rfl, hm.keeps _ _ hC, ht, fun z => ?_, h0.keeps hm.keeps, hE h' e hm⟩
  refine bg fun G' g' => ?_
  obtain ⟨o, _, y, _⟩ := h0
  refine g' ?_
  clear g' G'
  have y' : hp.get? e0 = some o := y
  rw [z, hm.new] at y'
  cases y'
end
section
variable {M : Model} {A : Around} {E : Value → Shared → Prop} {s : Shared}
theorem pass_up {base : Heap} {l : List Env} {L e : Addr} {cls a0 : Value} {env : Env} {what : String} {α : Type} {Q : α → Shared → Prop} (hf : env.frame = some L) (hh : Heap.FlyingW base l e cls a0 s.heap)
    (hQ : ∀ h', Heap.HeldW base l e cls a0 L h' → s.heap.UpToSlots h' → E (.ref e) { s with heap := h' }) : wpAny M A (PySem.passOn what (.ref e) env : Sem α) Q E s := by
  refine bg fun G' g' => ?_
  obtain ⟨_, _, _, oe, vs, T, oT, ts, he, hcls, hd, h1, _⟩ := id hh
  refine g' ?_
  clear g' G'
  unfold PySem.passOn
  refine wpAny_bind (wpAny_field he hd h1 ?_)
  rw [if_neg (show ¬ ((Value.ref T == Value.none) = true) by simp), hf]
  exact wpAny_bind (PySem.W.setFlight_onW hh fun h' x1 x2 => wpAny_throw (hQ h' x1 x2))
theorem came_back {base : Heap} {l : List Env} {L e : Addr} {cls a0 : Value} {env : Env} (hf : env.frame = some L) (hh : Heap.HeldW base l e cls a0 L s.heap)
    (hQ : ∀ h', Heap.HeldW base l e cls a0 L h' → s.heap.UpToSlots h' → E (.ref e) { s with heap := h' }) : cameBackBy M A env E (.ref e) s := by
  refine bg fun G' g' => ?_
  obtain ⟨_, _, _, oe, vs, T, oT, ts, he, hcls, hd, h1, _⟩ := id hh
  refine g' ?_
  clear g' G'
  unfold cameBackBy
  refine wpAny_bind (wpAny_field he hd h1 ?_)
  rw [if_neg (show ¬ ((Value.ref T == Value.none) = true) by simp), hf]
  exact flight_held hh hQ
end
section
variable {X : Cx}
def tTryR (C : Addr) (EX : XK) (tb : XK → TS) : TS := fun D σ H => tb (fun _ _ H' => EX (.ref C) none H') D σ H
theorem ps_tryR {T C : Addr} {body : List Stmt} {x y : Str} {np np' cpos rpos hpos pos : Pos} {tb : XK → TS} {EX : XK} (XT : XCls X.K T) (XC : XCls X.K C) (hne : C ≠ T) (hg : Gl X x) (hm : X.mg x = some (.ref T)) (hg' : Gl X y) (hm' : X.mg y = some (.ref C))
    (hst : X.stack = X.env :: X.outer) (hfr : X.env.frame = some X.env.locals) (hp : PassesH C X EX)
    (hb : ∀ (EX : XK) (pn : List (Addr × Obj)) (E' : Value → Shared → Prop), Passes (CXG X.prog X.w T C) (X.tryc pn E') EX → PSs (X.tryc pn E') body (tb EX)) (hdb : (x == ("__debug__" : Str)) = false := by decide) (hdb' : (y == ("__debug__" : Str)) = false := by decide) :
    PS X (.Try body [.ExceptHandler (some (.Name x np)) none [.Raise (some (.Call (.Name y np') [] [] cpos)) none rpos] hpos] [] [] pos) (tTryR C EX tb) := by
  intro pins s σ H D I h
  obtain ⟨E', hE'⟩ : ∃ E' : Value → Shared → Prop, E' = fun (ev : Value) (s₁ : Shared) => wpAny (model X.prog X.w) X.A (noteFrame ev X.env) (fun _ s₂ => wpAny (model X.prog X.w) X.A (setFlight ev none) (fun _ s₃ =>
    wpAny (model X.prog X.w) X.A (handleBy ev X.env [.ExceptHandler (some (.Name x np)) none [.Raise (some (.Call (.Name y np') [] [] cpos)) none rpos] hpos]) (SP X pins D) X.xe s₃) X.xe s₂) X.xe s₁ := ⟨_, rfl⟩
  have pass : Passes (CXG X.prog X.w T C) (X.tryc (X.pn ++ pins) E') (fun _ _ H' => EX (.ref C) none H') := by
    intro pins' σ1 H1 s1 ev s' I1' cx
    have I1 : Inv X pins σ1 H1 s1 := I1'.untryc
    rw [hE']
    have frs' : X.A.frames = some (X.env :: X.outer) := by rw [← hst]; exact I1.ok.frames
    refine bg fun G' g' => ?_
    obtain ⟨nm, q, Nn, bs, hdct, sn, sub, ab, col, dd, k0, k1, k2, k3, k5, lT, oN, es, ep, lN, dN, sk, ni⟩ := XT.ex
    refine g' ?_
    clear g' G'
    refine bg fun G' g' => ?_
    obtain ⟨nm', q', Nn', bs', hdct', sn', sub', ab', col', dd', k0', k1', k2', k3', k5', lC', oN', es', ep', lN', dN', sk', ni'⟩ := XC.ex
    refine g' ?_
    clear g' G'
    rcases cx with cx | cx
    · refine bg fun G' g' => ?_
      obtain ⟨e, a0, B, H', rfl, os, bare, fl, un, slots, hok, hE⟩ := cx
      refine g' ?_
      clear g' G'
      have fl : Heap.FlyingW B X.stack e (.ref C) a0 s'.heap := fl
      have un : UnB (frs X.stack) H1 H' s1.heap B := un
      have slots : ∀ b o, s1.heap.get? b = some o → b ∈ frs X.stack → ∃ sl, s'.heap.get? b = some { o with slots := sl } := slots
      have frm : ∀ b ∈ frs X.stack, ∃ o, s'.heap.get? b = some o ∧ ∀ vs, o.data ≠ .fields vs := fun b hb' => (fl.2.2.1.mem hb').2
      have inv : ∀ h2 : Heap, B.StaysIn h2 → s'.heap.UpToSlots h2 → Inv X pins σ1 H' { s' with heap := h2 } := fun h2 st up => by
        have := un_of_B un st slots frm up
        exact I1.call' (s' := { s' with heap := h2 }) (ch := []) os this (hok.kept fun b o q => st b o q) bare (fun _ z => nomatch z)
      have slots2 : ∀ h2 : Heap, s'.heap.UpToSlots h2 → ∀ b o, s1.heap.get? b = some o → b ∈ frs X.stack → ∃ sl, h2.get? b = some { o with slots := sl } := fun h2 up b o e1 e2 => by
        obtain ⟨sl, z⟩ := slots b o e1 e2
        refine bg fun G' g' => ?_
        obtain ⟨o2, z2, d2⟩ := frm b e2
        refine g' ?_
        clear g' G'
        rw [z] at z2
        cases z2
        obtain ⟨sl', z3⟩ := up b _ z d2
        exact ⟨sl', z3⟩
      rw [hst] at fl
      refine wpAny_looks_onW frs' hfr fl fun h4 held4 sm4 => ?_
      refine wpAny_landsW held4 fun h5 fl5 sm5 => ?_
      have I5 := inv h5 fl5.1 (sm4.trans sm5)
      refine bg fun G' g' => ?_
      obtain ⟨ob, hob, hobc⟩ := fl5.there
      refine g' ?_
      clear g' G'
      refine wpAny_handleBy_cons (codeAny_handlers_test (ld_glob (I5.caught e) hg hm ?_ hdb)) (by intro q; cases q)
      refine excMatches_other (I5.kIn C _ lC') (I5.kIn T _ lT) hob hobc PySem.F.excBase_Exception.hasBase (ref_ne hne) ?_
      refine wpAny_handleBy_nil (pass_up hfr fl5 fun h6 held6 sm6 => ?_)
      refine hp pins σ1 H1 s1 _ _ I1 ⟨e, a0, B, H', rfl, os, bare, by rw [hst]; exact held6, un, slots2 h6 ((sm4.trans sm5).trans sm6), hok, hE⟩
    · refine bg fun G' g' => ?_
      obtain ⟨e, a0, B, H', rfl, os, bare, fl, un, slots, hok, hE, hc⟩ := cx
      refine g' ?_
      clear g' G'
      have fl : Heap.FlyingW B X.stack e (.ref T) a0 s'.heap := fl
      have un : UnB (frs X.stack) H1 H' s1.heap B := un
      have slots : ∀ b o, s1.heap.get? b = some o → b ∈ frs X.stack → ∃ sl, s'.heap.get? b = some { o with slots := sl } := slots
      have frm : ∀ b ∈ frs X.stack, ∃ o, s'.heap.get? b = some o ∧ ∀ vs, o.data ≠ .fields vs := fun b hb' => (fl.2.2.1.mem hb').2
      have inv : ∀ h2 : Heap, B.StaysIn h2 → s'.heap.UpToSlots h2 → Inv X pins σ1 H' { s' with heap := h2 } := fun h2 st up => by
        have := un_of_B un st slots frm up
        exact I1.call' (s' := { s' with heap := h2 }) (ch := []) os this (hok.kept fun b o q => st b o q) bare (fun _ z => nomatch z)
      have slots2 : ∀ h2 : Heap, s'.heap.UpToSlots h2 → ∀ b o, s1.heap.get? b = some o → b ∈ frs X.stack → ∃ sl, h2.get? b = some { o with slots := sl } := fun h2 up b o e1 e2 => by
        obtain ⟨sl, z⟩ := slots b o e1 e2
        refine bg fun G' g' => ?_
        obtain ⟨o2, z2, d2⟩ := frm b e2
        refine g' ?_
        clear g' G'
        rw [z] at z2
        cases z2
        obtain ⟨sl', z3⟩ := up b _ z d2
        exact ⟨sl', z3⟩
      rw [hst] at fl
      refine note2F frs' hfr fl hc fun h4 held4 c4 sm4 => ?_
      refine land2 held4 c4 fun h5 fl5 c5 sm5 => ?_
      have I5 := inv h5 fl5.1 (sm4.trans sm5)
      refine bg fun G' g' => ?_
      obtain ⟨ob, hob, hobc⟩ := fl5.there
      refine g' ?_
      clear g' G'
      refine wpAny_handleBy_cons (codeAny_handlers_test (ld_glob (I5.caught e) hg hm ?_ hdb)) (by intro q; cases q)
      refine wpAny_excMatches_sub_self (I5.kIn T _ lT) hob hobc PySem.F.excBase_Exception.hasBase ?_
      refine codeAny_handlers_suite (again2 fl5 c5 fun h6 fl6 c6 sm6 => ?_)
      have I6 := inv h6 fl6.1 ((sm4.trans sm5).trans sm6)
      refine wpAny_execs_cons (Raise_in (nm := nm') (q := q') (C := C) (N := Nn') (bs := bs') (hdct := hdct') (sn := sn') (sub := sub') (ab := ab') (col := col') (dd := dd') (k0 := k0') (k1 := k1') (k2 := k2') (k3 := k3') (k5 := k5') PySem.F.excBase_Exception (e0 := e) rfl ni' (ld_glob (I6.caught e) hg' hm' ?_ hdb'))
      refine ⟨rfl, I6.kIn C _ lC', ⟨oN', es', ep', I6.kIn Nn' _ lN', dN', sk', fun _ => rfl⟩, c6, fun h7 e7 hm7 => ?_⟩
      refine bg fun G' g' => ?_
      obtain ⟨t7, g7, _, _⟩ := hm7.there
      refine g' ?_
      clear g' G'
      have n7 : B.get? e7 = none := by
        cases hq : B.get? e7 with
        | none => rfl
        | some o =>
          have := fl6.1 e7 o hq
          rw [hm7.new] at this
          cases this
      have oth : ∀ b, b ≠ e7 → (h7.update e7 (Obj.mapFields (·.setIfInBounds 2 (.ref e)))).get? b = h7.get? b := fun b hb => Heap.get?_update_other _ _ (Ne.symm hb)
      have kee : ∀ b o, h6.get? b = some o → (h7.update e7 (Obj.mapFields (·.setIfInBounds 2 (.ref e)))).get? b = some o := fun b o hb => by
        rw [oth b fun z => by rw [z, hm7.new] at hb; cases hb]
        exact hm7.keeps b o hb
      have g8 := Heap.get?_update_self (Obj.mapFields (·.setIfInBounds 2 (.ref e))) g7 (Obj.isFreed_of_fields (Obj.data_mapFields rfl _))
      have FF : (h7.update e7 (Obj.mapFields (·.setIfInBounds 2 (.ref e)))).FunFrames B (X.env :: X.outer) := fl6.2.2.1.of_keeps fun b o hb _ => ⟨o, kee b o hb, rfl⟩
      unfold notedBy
      refine note2 (s := { s' with heap := h7.update e7 (Obj.mapFields (·.setIfInBounds 2 (.ref e))) }) (base := B) (c := .ref e) frs' FF hfr g8 (fun b o hb => kee b o (fl6.1 b o hb)) n7 (Obj.data_mapFields rfl _) rfl rfl (.inl rfl) fun h9 held9 _ sm9 => ?_
      refine came_back hfr held9 fun h10 held10 sm10 => ?_
      refine hp pins σ1 H1 s1 _ _ I1 ⟨e7, _, B, H', rfl, os, bare, by rw [hst]; exact held10, un, slots2 h10 ?_, hok, hE⟩
      exact (((sm4.trans sm5).trans sm6).trans (Heap.UpToSlots.of_keeps kee)).trans (sm9.trans sm10)
  refine wpAny_Try_except ?_
  have hb' := hb _ (X.pn ++ pins) E' pass [] s σ H D (I.tryc E') h
  subst hE'
  refine wpAny_mono hb' (fun f s1 hq => ?_) fun _ _ z => z
  cases f with
  | next => obtain ⟨σ', H2, J, q⟩ := hq; exact wpAny_execs_nil ⟨σ', H2, J.untryc, q⟩
  | brk => obtain ⟨σ', H2, J, q⟩ := hq; exact ⟨σ', H2, J.untryc, q⟩
  | cont => obtain ⟨σ', H2, J, q⟩ := hq; exact ⟨σ', H2, J.untryc, q⟩
  | ret u => obtain ⟨v, σ', H2, J, rv, q⟩ := hq; exact ⟨v, σ', H2, J.untryc, rv, q⟩
end
end L2

set_option Elab.async false
set_option maxRecDepth 100000
set_option linter.all false
namespace Ut
open PySem L2 TL Cm
def allR {α β : Type} (f : α → Option β) : List α → Option (List β)
  | [] => some []
  | x :: r => (f x).bind fun y => (allR f r).map fun ys => y :: ys
theorem allR_snoc {α β : Type} (f : α → Option β) (l : List α) (x : α) : allR f (l ++ [x]) = (allR f l).bind fun ys => (f x).map fun y => ys ++ [y] := by
  induction l with
  | nil =>
    show (f x).bind _ = _
    cases f x <;> rfl
  | cons a r ih =>
    show (f a).bind (fun y => (allR f (r ++ [x])).map fun ys => y :: ys) = ((f a).bind fun y => (allR f r).map fun ys => y :: ys).bind _
    rw [ih]
    cases f a with
    | none => rfl
    | some y =>
      cases allR f r with
      | none => rfl
      | some ys => cases f x <;> rfl
theorem allR_none {α β : Type} {f : α → Option β} {l : List α} {x : α} (h : x ∈ l) (hx : f x = none) : allR f l = none := by
  induction l with
  | nil => cases h
  | cons a r ih =>
    rcases List.mem_cons.mp h with rfl | h
    · show (f x).bind _ = none
      rw [hx]
      rfl
    · show (f a).bind _ = none
      rw [ih h]
      cases f a <;> rfl
theorem allR_some {α β : Type} {f : α → Option β} {g : α → β} {l : List α} (h : ∀ x ∈ l, f x = some (g x)) : allR f l = some (l.map g) := by
  induction l with
  | nil => rfl
  | cons a r ih =>
    show (f a).bind _ = _
    rw [h a (List.mem_cons_self ..), ih fun x hx => h x (List.mem_cons_of_mem _ hx)]
    rfl
theorem allR_map {α β : Type} {f : α → Option β} {g : α → β} {l : List α} {ys : List β} (h : allR f l = some ys) (hg : ∀ x y, f x = some y → g x = y) : ys = l.map g := by
  induction l generalizing ys with
  | nil => cases h; rfl
  | cons a r ih =>
    have h : ((f a).bind fun y => (allR f r).map fun ys => y :: ys) = some ys := h
    cases e : f a with
    | none => rw [e] at h; cases h
    | some y =>
      rw [e] at h
      cases e2 : allR f r with
      | none => rw [e2] at h; cases h
      | some zs =>
        rw [e2] at h
        cases h
        rw [List.map_cons, hg a y e, ih e2]
theorem allR_len {α β : Type} {f : α → Option β} {l : List α} {ys : List β} (h : allR f l = some ys) : ys.length = l.length := by
  induction l generalizing ys with
  | nil => cases h; rfl
  | cons a r ih =>
    have h : ((f a).bind fun y => (allR f r).map fun ys => y :: ys) = some ys := h
    cases e : f a with
    | none => rw [e] at h; cases h
    | some y =>
      rw [e] at h
      cases e2 : allR f r with
      | none => rw [e2] at h; cases h
      | some zs =>
        rw [e2] at h
        cases h
        rw [List.length_cons, List.length_cons, ih e2]
theorem allR_mem {α β : Type} {f : α → Option β} {l : List α} {ys : List β} (h : allR f l = some ys) {y : β} (hy : y ∈ ys) : ∃ x ∈ l, f x = some y := by
  induction l generalizing ys with
  | nil => cases h; cases hy
  | cons a r ih =>
    have h : ((f a).bind fun y => (allR f r).map fun ys => y :: ys) = some ys := h
    cases e : f a with
    | none => rw [e] at h; cases h
    | some z =>
      rw [e] at h
      cases e2 : allR f r with
      | none => rw [e2] at h; cases h
      | some zs =>
        rw [e2] at h
        cases h
        rcases List.mem_cons.mp hy with rfl | hy
        · exact ⟨a, List.mem_cons_self .., e⟩
        · refine bg fun G' g' => ?_
          obtain ⟨x, h1, h2⟩ := ih e2 hy
          refine g' ?_
          clear g' G'
          exact ⟨x, List.mem_cons_of_mem _ h1, h2⟩
def numR (t : List Nat) : Option Nat := if t.length ≤ 64 then (match Sh27.undecimal t with
  | .num b => some b
  | _ => none) else none
def numsR (n : Nat) (xs : List (List Nat)) : Option (List Nat) := if xs.length = n then allR numR xs else none
def outT (x : List (List Nat) × List (List Nat)) : List Nat := x.1.length :: x.2.length :: ((x.1.flatMap fun n => n.length :: n) ++ x.2.flatten)
def rowsR (t : List Nat) : List (List Nat) := ((Sh27.split 10 t).drop 2).dropLast
def readT (t : List Nat) : Option (List Nat) :=
  if 3 ≤ (Sh27.split 10 t).length ∧ (Sh27.split 10 t).length ≤ 259 then
    if Tb.namesB (Sh27.words ((Sh27.split 10 t).getD 0 [])) = true then
      (allR (fun r => numsR (Sh27.words ((Sh27.split 10 t).getD 0 [])).length (Sh27.words r)) (rowsR t)).bind fun rows =>
        if Sh27.table (Sh27.words ((Sh27.split 10 t).getD 0 [])) (rows.map fun r => r.map Sh27.decimal) = t then some (outT (Sh27.words ((Sh27.split 10 t).getD 0 []), rows)) else none
    else none
  else none
theorem split_nil (c : Nat) : Sh27.split c [] = [[]] := rfl
theorem split_yes (c : Nat) (r : List Nat) : Sh27.split c (c :: r) = [] :: Sh27.split c r := by
  show (if c = c then _ else _) = _
  rw [if_pos rfl]
  rfl
theorem split_ne (c : Nat) (t : List Nat) : Sh27.split c t ≠ [] := by
  cases t with
  | nil => rw [split_nil]; simp
  | cons x r =>
    by_cases h : x = c
    · rw [h, split_yes]; simp
    · show (if x = c then _ else _) ≠ _
      rw [if_neg h]
      split <;> simp
theorem split_no {c x : Nat} (r : List Nat) (h : x ≠ c) {a : List Nat} {q : List (List Nat)} (e : Sh27.split c r = a :: q) : Sh27.split c (x :: r) = (x :: a) :: q := by
  have k : Sh27.split c (x :: r) = if x = c then [] :: Sh27.split c r else (match Sh27.split c r with
    | [] => [[x]]
    | a :: q => (x :: a) :: q) := rfl
  rw [k, if_neg h, e]
theorem split_free {c : Nat} {a : List Nat} (h : c ∉ a) : Sh27.split c a = [a] := by
  induction a with
  | nil => rfl
  | cons x r ih => exact split_no r (fun z => h (by simp [z])) (ih fun z => h (List.mem_cons_of_mem _ z))
theorem split_app (c : Nat) (a b : List Nat) : Sh27.split c (a ++ c :: b) = Sh27.split c a ++ Sh27.split c b := by
  induction a with
  | nil =>
    rw [List.nil_append, split_yes, split_nil]
    rfl
  | cons x r ih =>
    by_cases h : x = c
    · rw [h, List.cons_append, split_yes, split_yes, ih, List.cons_append]
    · cases e : Sh27.split c r with
      | nil => exact absurd e (split_ne c r)
      | cons y q =>
        rw [List.cons_append, split_no r h e]
        rw [e] at ih
        rw [split_no (r ++ c :: b) h ih]
        rfl
theorem split_snoc_no {c x : Nat} (t : List Nat) (h : x ≠ c) {ps : List (List Nat)} {p : List Nat} (e : Sh27.split c t = ps ++ [p]) : Sh27.split c (t ++ [x]) = ps ++ [p ++ [x]] := by
  induction t generalizing ps p with
  | nil =>
    rw [split_nil] at e
    cases ps with
    | nil =>
      cases e
      exact split_free (by simpa using fun z => h z.symm)
    | cons a r =>
      have := congrArg List.length e
      simp at this
  | cons y r ih =>
    by_cases hy : y = c
    · rw [hy, split_yes] at e
      cases ps with
      | nil =>
        have := congrArg List.length e
        simp at this
        exact absurd this (split_ne c r)
      | cons a q =>
        obtain ⟨e1, e2⟩ := List.cons.inj e
        subst e1
        rw [hy, List.cons_append, split_yes, ih e2]
        rfl
    · cases e2 : Sh27.split c r with
      | nil => exact absurd e2 (split_ne c r)
      | cons a q =>
        rw [split_no r hy e2] at e
        cases ps with
        | nil =>
          have e3 : q = [] := by
            have := congrArg List.length e
            simpa using this
          subst e3
          cases e
          rw [List.cons_append, split_no (r ++ [x]) hy (ih (ps := []) (p := a) e2)]
          rfl
        | cons b qs =>
          cases e
          have := ih (ps := a :: qs) (p := p) e2
          rw [List.cons_append, split_no (r ++ [x]) hy this]
          rfl
theorem split_snoc_yes {c : Nat} (t : List Nat) : Sh27.split c (t ++ [c]) = Sh27.split c t ++ [[]] := by
  rw [split_app, split_nil]
theorem split_flat (c : Nat) (bs : List (List Nat)) (h : ∀ b ∈ bs, c ∉ b) : Sh27.split c (bs.flatMap fun b => b ++ [c]) = bs ++ [[]] := by
  induction bs with
  | nil => rfl
  | cons b r ih =>
    rw [List.flatMap_cons, List.append_assoc, List.singleton_append, split_app, ih fun x hx => h x (List.mem_cons_of_mem _ hx), split_free (h b (List.mem_cons_self ..))]
    rfl
theorem split_sum (c : Nat) (t : List Nat) : ((Sh27.split c t).map List.length).sum + (Sh27.split c t).length = t.length + 1 := by
  induction t with
  | nil => rfl
  | cons x r ih =>
    by_cases h : x = c
    · rw [h, split_yes]
      simp only [List.map_cons, List.sum_cons, List.length_cons, List.length_nil]
      omega
    · cases e : Sh27.split c r with
      | nil => exact absurd e (split_ne c r)
      | cons a q =>
        rw [split_no r h e]
        rw [e] at ih
        simp only [List.map_cons, List.sum_cons, List.length_cons] at ih ⊢
        omega
end Ut

set_option Elab.async false
set_option maxRecDepth 100000
set_option linter.all false
namespace Ut
open PySem L2 TL Cm
theorem words_def (t : List Nat) : Sh27.words t = (Sh27.split 32 t).filter fun w => !w.isEmpty := rfl
theorem words_app (a b : List Nat) : Sh27.words (a ++ 32 :: b) = Sh27.words a ++ Sh27.words b := by
  rw [words_def, split_app, List.filter_append, ← words_def, ← words_def]
theorem words_nil : Sh27.words [] = [] := rfl
theorem words_blank (b : List Nat) : Sh27.words (32 :: b) = Sh27.words b := words_app [] b
theorem words_rep (n : Nat) (b : List Nat) : Sh27.words (List.replicate n 32 ++ b) = Sh27.words b := by
  induction n with
  | zero => rfl
  | succ n ih => rw [List.replicate_succ, List.cons_append, words_blank, ih]
theorem words_one {a : List Nat} (h : 32 ∉ a) (h0 : a ≠ []) : Sh27.words a = [a] := by
  rw [words_def, split_free h]
  cases a with
  | nil => exact absurd rfl h0
  | cons x r => rfl
theorem words_fold (l : List (List Nat)) (a : List Nat) : Sh27.words (l.foldl (fun (a b : List Nat) => if a = [] then b else a ++ (32 :: 32 :: b)) a) = Sh27.words a ++ l.flatMap Sh27.words := by
  induction l generalizing a with
  | nil => simp
  | cons b r ih =>
    rw [List.foldl_cons, ih, List.flatMap_cons, ← List.append_assoc]
    congr 1
    by_cases h : a = []
    · rw [if_pos h, h, words_nil, List.nil_append]
    · rw [if_neg h, words_app, words_blank]
theorem words_joined {w : List Nat} {r : List (List Nat)} (hl : w.length = r.length) (h : ∀ x ∈ r, x ≠ [] ∧ 32 ∉ x) : Sh27.words (Sh27.joined w r) = r := by
  unfold Sh27.joined
  rw [words_fold, words_nil, List.nil_append]
  induction r generalizing w with
  | nil =>
    cases w with
    | nil => rfl
    | cons a b => cases hl
  | cons x r ih =>
    cases w with
    | nil => cases hl
    | cons a b =>
      obtain ⟨h1, h2⟩ := h x (List.mem_cons_self ..)
      rw [List.zip_cons_cons, List.map_cons, List.flatMap_cons, ih (by simpa using hl) fun y hy => h y (List.mem_cons_of_mem _ hy)]
      unfold Sh27.right
      rw [words_rep, words_one h2 h1]
      rfl
theorem nt_dig : ∀ (n c : Nat), c ∈ Sh27.natText n → 48 ≤ c ∧ c ≤ 57 := by
  intro n
  induction n using Nat.strongRecOn with
  | ind n ih =>
    intro c hc
    by_cases h : n < 10
    · rw [DM.nt_small h] at hc
      simp at hc
      omega
    · rw [DM.nt_step (by omega)] at hc
      rcases List.mem_append.mp hc with hc | hc
      · exact ih _ (by omega) c hc
      · simp at hc
        (clear h; omega)
theorem signed_in {z : Int} {c : Nat} (h : c ∈ Sh27.signed z) : 45 ≤ c := by
  unfold Sh27.signed at h
  split at h
  · rcases List.mem_cons.mp h with h | h
    · omega
    · have := nt_dig _ c h
      omega
  · have := nt_dig _ c h
    omega
theorem zeros_in {n c : Nat} (h : c ∈ Sh27.zeros n) : 45 ≤ c := by
  have := (List.mem_replicate.mp h).2
  omega
theorem placed_in {d : List Nat} {e : Int} (hd : ∀ c ∈ d, 45 ≤ c) (h0 : d ≠ []) : (∀ c ∈ Sh27.placed d e, 45 ≤ c) ∧ Sh27.placed d e ≠ [] := by
  unfold Sh27.placed
  try dsimp only
  have hl : d.length ≠ 0 := fun z => h0 (List.length_eq_zero_iff.mp z)
  split
  · refine ⟨fun c hc => ?_, by simp [h0]⟩
    rcases List.mem_append.mp hc with hc | hc
    · exact hd c hc
    · exact zeros_in hc
  · split
    · refine ⟨fun c hc => ?_, by simp⟩
      rcases List.mem_cons.mp hc with hc | hc
      · omega
      · rcases List.mem_cons.mp hc with hc | hc
        · omega
        · rcases List.mem_append.mp hc with hc | hc
          · exact zeros_in hc
          · exact hd c hc
    · split
      · refine ⟨fun c hc => ?_, by simp⟩
        rcases List.mem_append.mp hc with hc | hc
        · exact hd c (List.mem_of_mem_take hc)
        · rcases List.mem_cons.mp hc with hc | hc
          · omega
          · exact hd c (List.mem_of_mem_drop hc)
      · refine ⟨fun c hc => ?_, by simp⟩
        rcases List.mem_append.mp hc with hc | hc
        · exact hd c (List.mem_of_mem_take hc)
        · rcases List.mem_append.mp hc with hc | hc
          · split at hc
            · cases hc
            · rcases List.mem_cons.mp hc with hc | hc
              · omega
              · exact hd c (List.mem_of_mem_drop hc)
          · rcases List.mem_cons.mp hc with hc | hc
            · omega
            · exact signed_in hc
theorem dec_in (b : Nat) : (∀ c ∈ Sh27.decimal b, 45 ≤ c) ∧ Sh27.decimal b ≠ [] := by
  rw [DM.dec_fun]
  try dsimp only
  generalize Sh27.shortest (b % Sh27.SIGN) = r
  split
  · simp
  · have := placed_in (d := Sh27.natText r.1) (e := r.2) (fun c hc => by have := nt_dig _ c hc; omega) (fun z => by have := DM.nt_pos r.1; rw [z] at this; simp at this)
    refine ⟨fun c hc => ?_, by simp [this.2]⟩
    rcases List.mem_append.mp hc with hc | hc
    · split at hc
      · simp at hc; omega
      · cases hc
    · exact this.1 c hc
theorem dec_word (b : Nat) : Sh27.decimal b ≠ [] ∧ 32 ∉ Sh27.decimal b := ⟨(dec_in b).2, fun z => by have := (dec_in b).1 32 z; omega⟩
theorem fold_in {c : Nat} (l : List (List Nat)) (a : List Nat) (hc : c ≠ 32) (ha : c ∉ a) (h : ∀ x ∈ l, c ∉ x) : c ∉ l.foldl (fun (a b : List Nat) => if a = [] then b else a ++ (32 :: 32 :: b)) a := by
  induction l generalizing a with
  | nil => exact ha
  | cons b r ih =>
    rw [List.foldl_cons]
    have hb := h b (List.mem_cons_self ..)
    refine ih _ ?_ fun x hx => h x (List.mem_cons_of_mem _ hx)
    split
    · exact hb
    · simp [ha, hb, hc]
theorem joined_in {w : List Nat} {r : List (List Nat)} (h : ∀ x ∈ r, 10 ∉ x) : 10 ∉ Sh27.joined w r := by
  unfold Sh27.joined
  refine fold_in _ _ (by decide) (by simp) fun x hx => ?_
  refine bg fun G' g' => ?_
  obtain ⟨y, hy, rfl⟩ := List.mem_map.mp hx
  refine g' ?_
  clear g' G'
  unfold Sh27.right
  intro z
  rcases List.mem_append.mp z with z | z
  · have := (List.mem_replicate.mp z).2
    omega
  · exact h _ (List.of_mem_zip hy).2 z
def wid (names : List (List Nat)) (rows : List (List (List Nat))) : List Nat := (List.range names.length).map fun i => ((names :: rows).map fun r => (r.getD i []).length).foldl max 0
theorem wid_len (names : List (List Nat)) (rows : List (List (List Nat))) : (wid names rows).length = names.length := by
  unfold wid
  simp
def tlines (names : List (List Nat)) (rows : List (List (List Nat))) : List (List Nat) := Sh27.joined (wid names rows) names :: List.replicate (Sh27.joined (wid names rows) names).length 45 :: rows.map (Sh27.joined (wid names rows))
theorem table_flat (names : List (List Nat)) (rows : List (List (List Nat))) : Sh27.table names rows = (tlines names rows).flatMap fun b => b ++ [10] := by
  unfold tlines
  rw [List.flatMap_cons, List.flatMap_cons, List.flatMap_map]
  show (_ ++ _) ++ (_ ++ _) ++ _ = _
  rw [List.append_assoc]
  rfl
theorem tlines_in {names : List (List Nat)} {rows : List (List (List Nat))} (hn : ∀ x ∈ names, 10 ∉ x) (hr : ∀ r ∈ rows, ∀ x ∈ r, 10 ∉ x) : ∀ b ∈ tlines names rows, 10 ∉ b := by
  intro b hb
  unfold tlines at hb
  rcases List.mem_cons.mp hb with rfl | hb
  · exact joined_in hn
  · rcases List.mem_cons.mp hb with rfl | hb
    · intro z
      have := (List.mem_replicate.mp z).2
      omega
    · refine bg fun G' g' => ?_
      obtain ⟨r, h1, rfl⟩ := List.mem_map.mp hb
      refine g' ?_
      clear g' G'
      exact joined_in (hr r h1)
theorem und_in {t : List Nat} {b : Nat} (h : Sh27.undecimal t = .num b) : b < 2 ^ 64 ∧ b % Sh27.SIGN < Sh27.INF := by
  have e1 : Sh27.SIGN = 9223372036854775808 := by decide
  have e2 : Sh27.INF = 9218868437227405312 := by decide
  unfold Sh27.undecimal at h
  split at h
  · cases h
  · rename_i g s hgs
    split at h
    · cases h
    · rename_i hs
      have hg : g = 0 ∨ g = Sh27.SIGN := by
        split at hgs
        · refine bg fun G' g' => ?_
          obtain ⟨_, _, z⟩ := Option.map_eq_some_iff.mp hgs
          refine g' ?_
          clear g' G'
          exact .inr (Prod.mk.inj z).1.symm
        · refine bg fun G' g' => ?_
          obtain ⟨_, _, z⟩ := Option.map_eq_some_iff.mp hgs
          refine g' ?_
          clear g' G'
          exact .inl (Prod.mk.inj z).1.symm
      have hb : b = if s = 0 then 0 else g + s := by
        injection h with h
        exact h.symm
      have h64 : (2 : Nat) ^ 64 = 18446744073709551616 := by decide
      rw [hb]
      split
      · rw [e1, e2, h64]; omega
      · rcases hg with rfl | rfl
        · rw [e1, e2, h64] at *; (clear hb h hgs h64 e2 e1; omega)
        · rw [e1, e2, h64] at *; (clear hb h hgs h64 e2 e1; omega)
theorem numOf_num {t : List Nat} {b : Nat} (h : Sh27.undecimal t = .num b) : Sh27.numOf t = b := by
  unfold Sh27.numOf
  rw [h]
theorem numR_num {t : List Nat} {b : Nat} (h : numR t = some b) : t.length ≤ 64 ∧ Sh27.undecimal t = .num b := by
  unfold numR at h
  split at h
  · rename_i hl
    refine ⟨hl, ?_⟩
    split at h
    · rename_i b' e
      cases h
      exact e
    · cases h
  · cases h
theorem numR_of {t : List Nat} {b : Nat} (hl : t.length ≤ 64) (h : Sh27.undecimal t = .num b) : numR t = some b := by
  unfold numR
  rw [if_pos hl, h]
theorem und_48 : Sh27.undecimal [48] = .num 0 := by kernel_rfl
theorem num_back {t : List Nat} (h : Sh27.decimal (Sh27.numOf t) = t) : numR t = some (Sh27.numOf t) := by
  cases e : Sh27.undecimal t with
  | num b =>
    have e' := numOf_num e
    rw [e'] at h ⊢
    exact numR_of (by rw [← h]; exact Nat.le_trans (Cm.dec_len (und_in e).2) (by decide)) e
  | none_ =>
    have z : Sh27.numOf t = 0 := by unfold Sh27.numOf; rw [e]
    rw [z, DM.dec_zero rfl] at h
    rw [← h, und_48] at e
    cases e
  | great =>
    have z : Sh27.numOf t = 0 := by unfold Sh27.numOf; rw [e]
    rw [z, DM.dec_zero rfl] at h
    rw [← h, und_48] at e
    cases e
end Ut

set_option Elab.async false
set_option maxRecDepth 100000
set_option linter.all false
namespace Ut
open PySem L2 TL Cm
theorem map_self {α : Type} {f : α → α} {l : List α} (h : l = l.map f) : ∀ x ∈ l, f x = x := by
  induction l with
  | nil => intro x hx; cases hx
  | cons a r ih =>
    rw [List.map_cons] at h
    obtain ⟨h1, h2⟩ := List.cons.inj h
    intro x hx
    rcases List.mem_cons.mp hx with rfl | hx
    · exact h1.symm
    · exact ih h2 x hx
theorem name_free {x : List Nat} (h : Sh27.isName x = true) {c : Nat} (hc : c < 33) : c ∉ x := fun z => by
  unfold Sh27.isName at h
  rw [Bool.and_eq_true, List.all_eq_true] at h
  have := h.2 c z
  unfold Sh27.among at this
  simp at this
  omega
theorem nums_len {n : Nat} {xs : List (List Nat)} {ys : List Nat} (h : numsR n xs = some ys) : xs.length = n ∧ ys.length = n ∧ ys = xs.map Sh27.numOf ∧ ∀ b ∈ ys, b < 2 ^ 64 ∧ b % Sh27.SIGN < Sh27.INF := by
  unfold numsR at h
  split at h
  · rename_i hl
    refine ⟨hl, by rw [allR_len h, hl], allR_map h fun x y e => numOf_num (numR_num e).2, fun b hb => ?_⟩
    refine bg fun G' g' => ?_
    obtain ⟨x, _, hx⟩ := allR_mem h hb
    refine g' ?_
    clear g' G'
    exact und_in (numR_num hx).2
  · cases h
theorem rows_flat {a b : List Nat} {r : List (List Nat)} (t : List Nat) (h : Sh27.split 10 t = (a :: b :: r) ++ [[]]) : rowsR t = r := by
  unfold rowsR
  rw [h]
  show (r ++ [[]]).dropLast = r
  exact List.dropLast_concat
theorem lines_of {t : List Nat} {bs : List (List Nat)} (h : t = bs.flatMap fun b => b ++ [10]) (hb : ∀ b ∈ bs, 10 ∉ b) : Sh27.linesOf (t.length + 1) t = some bs ∧ Sh27.split 10 t = bs ++ [[]] := by
  refine ⟨?_, by rw [h]; exact split_flat 10 bs hb⟩
  rw [h]
  exact Rd.linesOf_text bs _ (fun b hb' x hx z => hb b hb' (z ▸ hx)) (Nat.lt_succ_self _)
theorem tab_lines {names : List (List Nat)} {rows : List (List Nat)} {t : List Nat} (hn : names.all Sh27.isName = true) (h : Sh27.table names (rows.map fun r => r.map Sh27.decimal) = t) :
    Sh27.linesOf (t.length + 1) t = some (tlines names (rows.map fun r => r.map Sh27.decimal)) ∧ Sh27.split 10 t = tlines names (rows.map fun r => r.map Sh27.decimal) ++ [[]] := by
  rw [List.all_eq_true] at hn
  refine lines_of (by rw [← h]; exact table_flat _ _) (tlines_in (fun x hx => name_free (hn x hx) (by decide)) fun r hr x hx => ?_)
  refine bg fun G' g' => ?_
  obtain ⟨q, hq, rfl⟩ := List.mem_map.mp hr
  refine g' ?_
  clear g' G'
  refine bg fun G' g' => ?_
  obtain ⟨b, hb, rfl⟩ := List.mem_map.mp hx
  refine g' ?_
  clear g' G'
  exact fun z => by
    have := (dec_in b).1 10 z
    omega
theorem readT_eq (t : List Nat) : readT t = (Sh27.untable t).map outT := by
  apply Option.ext
  intro o
  rw [Option.map_eq_some_iff]
  constructor
  · intro h
    unfold readT at h
    split at h
    · rename_i h1
      split at h
      · rename_i h2
        obtain ⟨names, en⟩ : ∃ names, Sh27.words ((Sh27.split 10 t).getD 0 []) = names := ⟨_, rfl⟩
        rw [en] at h h2
        cases e : allR (fun r => numsR names.length (Sh27.words r)) (rowsR t) with
        | none => rw [e] at h; cases h
        | some rows =>
          rw [e] at h
          simp only [Option.bind_some] at h
          split at h
          · rename_i h3
            cases h
            have h2' : Sh27.among names.length 1 16 = true ∧ names.all Sh27.isName = true := by
              unfold Tb.namesB at h2
              rwa [Bool.and_eq_true] at h2
            obtain ⟨l1, l2⟩ := tab_lines h2'.2 h3
            unfold tlines at l1 l2
            generalize ea : Sh27.joined (wid names (rows.map fun r => r.map Sh27.decimal)) names = a at l1 l2
            generalize eb : List.replicate a.length 45 = b at l1 l2
            generalize er : (rows.map fun r => r.map Sh27.decimal).map (Sh27.joined (wid names (rows.map fun r => r.map Sh27.decimal))) = r at l1 l2
            have eR := rows_flat t l2
            rw [eR] at e
            have en' : Sh27.words a = names := by
              rw [← en, l2]
              rfl
            have erows : rows = r.map fun x => (Sh27.words x).map Sh27.numOf := allR_map e fun x y hy => (nums_len hy).2.2.1.symm
            have hrl : rows.length = r.length := allR_len e
            have hlen : r.length + 3 ≤ 259 := by
              have := h1.2
              rw [l2] at this
              simpa using this
            refine ⟨(names, rows), ?_, rfl⟩
            unfold Sh27.untable
            rw [l1]
            simp only [Option.bind_some]
            rw [en', ← erows, if_pos]
            refine ⟨h2'.1, h2'.2, by rw [decide_eq_true_eq]; omega, ?_, h3⟩
            unfold Sh27.allLong
            rw [List.all_eq_true]
            intro y hy
            refine bg fun G' g' => ?_
            obtain ⟨x, _, hx⟩ := allR_mem e hy
            refine g' ?_
            clear g' G'
            rw [(nums_len hx).2.1]
            simp
          · cases h
      · cases h
    · cases h
  · intro h'
    refine bg fun G' g' => ?_
    obtain ⟨x, h, rfl⟩ := h'
    refine g' ?_
    clear g' G'
    unfold Sh27.untable at h
    cases e : Sh27.linesOf (t.length + 1) t with
    | none => rw [e] at h; cases h
    | some l =>
      rw [e] at h
      simp only [Option.bind_some] at h
      split at h
      · rename_i a b r
        split at h
        · rename_i hc
          refine bg fun G' g' => ?_
          obtain ⟨c1, c2, c3, c4, c5⟩ := hc
          refine g' ?_
          clear g' G'
          cases h
          obtain ⟨names, en⟩ : ∃ names, Sh27.words a = names := ⟨_, rfl⟩
          rw [en] at c1 c2 c4 c5 ⊢
          obtain ⟨rows, erows⟩ : ∃ rows, (r.map fun x => (Sh27.words x).map Sh27.numOf) = rows := ⟨_, rfl⟩
          rw [erows] at c3 c4 c5 ⊢
          obtain ⟨l1, l2⟩ := tab_lines c2 c5
          rw [e] at l1
          have l1 := Option.some.inj l1
          rw [← l1] at l2
          unfold tlines at l1
          have eR := rows_flat t l2
          have er : r = (rows.map fun r => r.map Sh27.decimal).map (Sh27.joined (wid names (rows.map fun r => r.map Sh27.decimal))) := (List.cons.inj (List.cons.inj l1).2).2
          have ewl := wid_len names (rows.map fun r => r.map Sh27.decimal)
          generalize wid names (rows.map fun r => r.map Sh27.decimal) = W at er ewl
          rw [← erows, List.map_map, List.map_map] at er
          have hx := map_self er
          have hlong : ∀ x ∈ r, (Sh27.words x).length = names.length := fun x hx => by
            unfold Sh27.allLong at c4
            rw [List.all_eq_true] at c4
            have := c4 ((Sh27.words x).map Sh27.numOf) (by rw [← erows]; exact List.mem_map.mpr ⟨x, hx, rfl⟩)
            simpa using this
          have hnum : ∀ x ∈ r, numsR names.length (Sh27.words x) = some ((Sh27.words x).map Sh27.numOf) := fun x hxr => by
            have z : Sh27.joined W (((Sh27.words x).map Sh27.numOf).map Sh27.decimal) = x := hx x hxr
            have z2 := words_joined (w := W) (r := ((Sh27.words x).map Sh27.numOf).map Sh27.decimal) (by rw [ewl, List.length_map, List.length_map, hlong x hxr]) (fun y hy => by
              refine bg fun G' g' => ?_
              obtain ⟨b, _, rfl⟩ := List.mem_map.mp hy
              refine g' ?_
              clear g' G'
              exact dec_word b)
            rw [z, List.map_map] at z2
            unfold numsR
            rw [if_pos (hlong x hxr)]
            exact allR_some fun w hw => num_back (map_self z2 w hw)
          have hall : allR (fun r => numsR names.length (Sh27.words r)) r = some rows := by
            rw [← erows]
            exact allR_some hnum
          have hrl : rows.length = r.length := by rw [← erows, List.length_map]
          have c3' : rows.length ≤ 256 := by simpa using c3
          unfold readT
          rw [eR, l2]
          have e0 : ((a :: b :: r) ++ [[]]).getD 0 [] = a := rfl
          rw [e0, en, hall, if_pos (by simp; (clear e0 hall ewl er eR l1 l2; clear l1 erows c3 c4 c5 en c1 c2 e; omega)), if_pos (by unfold Tb.namesB; rw [c1, c2]; rfl)]
          simp only [Option.bind_some]
          rw [if_pos c5]
        · cases h
      · cases h
end Ut

set_option Elab.async false
set_option maxRecDepth 100000
set_option linter.all false
namespace Ut
open PySem L2 TL Cm
def FreshL (H : Hp) (xs : List (List Nat)) (Q : VK) : Prop := ∀ (l : Addr) (H' : Hp) (bs : List Addr), H l = none → H' l = some (.lst (bs.map V.ref)) → LLN H l H' bs xs → Same H H' → Q (.ref l) H'
inductive spParted (K : PySem.W.Frag) (vs : List V) (H : Hp) (Q : VK) (E_ : XK) : Prop
  | mk (a : Addr) (t : List Nat) (c : Nat) (c_1 : vs = [.ref a, .int (c : Nat)]) (c_2 : SqL K H a (nI t)) (c_3 : t.length ≤ 1000000) (c_4 : FreshL H (Sh27.split c t) Q)
inductive spWords (K : PySem.W.Frag) (vs : List V) (H : Hp) (Q : VK) (E_ : XK) : Prop
  | mk (a : Addr) (t : List Nat) (c_1 : vs = [.ref a]) (c_2 : SqL K H a (nI t)) (c_3 : t.length ≤ 1000000) (c_4 : FreshL H (Sh27.words t) Q)
inductive spReadNum (K : PySem.W.Frag) (CX : Addr) (vs : List V) (H : Hp) (Q : VK) (E : XK) : Prop
  | mk (a : Addr) (t : List Nat) (c_1 : vs = [.ref a]) (c_2 : SqL K H a (nI t)) (c_3 : (∀ b, numR t = some b → ∀ H', Same H H' → Q (.int (b : Nat)) H')) (c_4 : (numR t = none → ∀ H', E (.ref CX) none H'))
inductive spReadNums (K : PySem.W.Frag) (CX : Addr) (vs : List V) (H : Hp) (Q : VK) (E : XK) : Prop
  | mk (a : Addr) (n : Nat) (as : List Addr) (xs : List (List Nat)) (c_1 : vs = [.ref a, .int (n : Nat)]) (c_2 : SqL K H a (as.map V.ref)) (c_3 : Tb.LS K H as xs) (c_4 : xs.length ≤ 1000001) (c_5 : (∀ ys, numsR n xs = some ys → Fresh H (nI ys) Q)) (c_6 : (numsR n xs = none → ∀ H', E (.ref CX) none H'))
theorem numR_no {t : List Nat} (h : DM.readD t = none) : numR t = none := by
  unfold numR
  rw [DM.undecimal_eq, h]
  split <;> rfl
theorem numR_great {t ds : List Nat} {g : Bool} {x : Int} (h : DM.readD t = some (g, ds, x)) (h2 : DM.decR (Sh27.natOf ds) x = none) : numR t = none := by
  unfold numR
  rw [DM.undecimal_eq, h]
  try dsimp only
  rw [h2]
  split <;> rfl
theorem numR_yes {t ds : List Nat} {g : Bool} {x : Int} {b : Nat} (hl : t.length ≤ 64) (h : DM.readD t = some (g, ds, x)) (h2 : DM.decR (Sh27.natOf ds) x = some b) : numR t = some (decB g b) := by
  unfold numR
  rw [if_pos hl, DM.undecimal_eq, h]
  try dsimp only
  rw [h2]
  rfl
theorem numR_long {t : List Nat} (hl : ¬ t.length ≤ 64) : numR t = none := if_neg hl
theorem _root_.Cm.LLN.ls {K : PySem.W.Frag} {H H' : Hp} {l : Addr} {as : List Addr} {xs : List (List Nat)} (R : LLN H l H' as xs) : Tb.LS K H' as xs := ⟨R.len, fun j a x h1 h2 => .of (R.at_ j a x h1 h2).2.2⟩
theorem hide_out {H : Hp} {l b : Addr} {o : HO} (e : hide H l b = some o) : b ≠ l ∧ H b = some o := by
  have hb : b ≠ l := fun z => by
    subst z
    rw [hide_self] at e
    cases e
  exact ⟨hb, by rw [hide_ne hb] at e; exact e⟩
theorem le_sum {x : Nat} {l : List Nat} (h : x ∈ l) : x ≤ l.sum := by
  induction l with
  | nil => cases h
  | cons a r ih =>
    rw [List.sum_cons]
    rcases List.mem_cons.mp h with rfl | h
    · omega
    · have := ih h
      omega
theorem words_len (t : List Nat) : (Sh27.words t).length ≤ t.length + 1 ∧ ∀ w ∈ Sh27.words t, w.length ≤ t.length := by
  have h := split_sum 32 t
  rw [words_def]
  refine ⟨Nat.le_trans (List.length_filter_le _ _) (by omega), fun w hw => ?_⟩
  have hw := (List.mem_filter.mp hw).1
  have : w.length ≤ ((Sh27.split 32 t).map List.length).sum := by
    exact le_sum (List.mem_map.mpr ⟨w, hw, rfl⟩)
  have h0 : 1 ≤ (Sh27.split 32 t).length := by
    cases e : Sh27.split 32 t with
    | nil => exact absurd e (split_ne 32 t)
    | cons a q => simp
  omega
theorem cut_mid (xs : List V) (h : 3 ≤ xs.length) : cutV xs (some 2) (some (-1)) = (xs.drop 2).dropLast := by
  unfold cutV
  have e1 : HT.sIx xs.length 0 (some 2) = 2 := by
    show min (2 : Int).toNat xs.length = 2
    show min 2 xs.length = 2
    omega
  have e2 : HT.sIx xs.length xs.length (some (-1)) = xs.length - 1 := by
    show (-1 + (xs.length : Int)).toNat = _
    (clear e1; omega)
  rw [e1, e2, List.dropLast_eq_take, List.length_drop, show xs.length - 1 - 2 = xs.length - 2 - 1 by (clear e2 e1; omega)]
theorem _root_.Cm.LLN.mid {H H' : Hp} {l : Addr} {as : List Addr} {xs : List (List Nat)} (R : LLN H l H' as xs) : LLN H l H' (as.drop 2).dropLast (xs.drop 2).dropLast := by
  have hl := R.len
  refine ⟨by simp [hl], fun j a x h1 h2 => ?_⟩
  rw [List.dropLast_eq_take, List.getElem?_take] at h1 h2
  split at h1
  · split at h2
    · rw [List.getElem?_drop] at h1 h2
      exact R.at_ _ a x h1 h2
    · cases h2
  · cases h1
theorem flat_le (names : List (List Nat)) (m : Nat) (h : ∀ x ∈ names, x.length ≤ m) : (names.flatMap fun n => n.length :: n).length ≤ names.length * (m + 1) := by
  induction names with
  | nil => simp
  | cons a r ih =>
    have h1 := h a (List.mem_cons_self ..)
    have h2 := ih fun x hx => h x (List.mem_cons_of_mem _ hx)
    rw [List.flatMap_cons, List.length_append, List.length_cons, List.length_cons, Nat.add_mul]
    omega
theorem flatten_le (rows : List (List Nat)) (m : Nat) (h : ∀ x ∈ rows, x.length ≤ m) : rows.flatten.length ≤ rows.length * m := by
  induction rows with
  | nil => simp
  | cons a r ih =>
    have h1 := h a (List.mem_cons_self ..)
    have h2 := ih fun x hx => h x (List.mem_cons_of_mem _ hx)
    rw [List.flatten_cons, List.length_append, List.length_cons, Nat.add_mul]
    omega
theorem eqv_n (x y : List Nat) : PyData.eqv (.list (x.map fun (n : Nat) => PyData.int (n : Int))) (.list (y.map fun (n : Nat) => PyData.int (n : Int))) = decide (x = y) := by
  simp only [PyData.eqv, eqvAll_n]
end Ut

set_option Elab.async false
set_option maxRecDepth 100000
set_option linter.all false
namespace S10
open PySem L2 TL Cm
section
variable {P : Program} {w : World} {K : PySem.W.Frag} {mg : Str → Option Value} {base : Heap} {c : Cs}
theorem ok_all_within (t : T K mg c) : GF P w K mg base CX0 1 "all_within" ["numbers", "least", "most"] (spAllW K) := by
  refine t.f_all_within.ok sc_all_within (fun vs H Q E h => ?_) (fun f cdv A outer s H vs Q E hr h => ?_)
  · refine bg fun G' g' => ?_
    obtain ⟨a, ns, lo, hi, rfl, _⟩ := h
    refine g' ?_
    clear g' G'
    rfl
  · refine bg fun G' g' => ?_
    obtain ⟨a, ns, lo, hi, rfl, hS, k⟩ := h
    refine g' ?_
    clear g' G'
    refine ⟨_, pss_cons (ps_for PassesOwn.never rfl (pi_list (pv 0)) (pg_name (i := 3) sc_all_within.nd rfl (Or.inl rfl))
      (pss_one (ps_if (pt_not (pt_chain op_le op_le (pv 1) (pv 3) (pv 2))) (pss_one (ps_ret pe_bl)) pss_nil))) (pss_one (ps_ret pe_bl)), ?_⟩
    refine ⟨_, rfl, a, rfl, ⟨_, hS⟩, for_list (K := K) (a := a) (xs := ns.map V.int) (fun i σ H' => ∃ v : Option V, H' = H ∧ σ = [some (.ref a), some (.int lo), some (.int hi), v] ∧ (ns.take i).all (inB lo hi) = true)
      ⟨none, rfl, rfl, rfl⟩ (fun i σ H' _ ⟨_, e, _⟩ => by rw [e]; exact hS) ?_ ?_⟩
    · intro i y σ H' hi' h'
      refine bg fun G' g' => ?_
      obtain ⟨v, rfl, rfl, hall⟩ := h'
      refine g' ?_
      clear g' G'
      refine bg fun G' g' => ?_
      obtain ⟨z, rfl, hz⟩ := getI hi'
      refine g' ?_
      clear g' G'
      refine ⟨_, rfl, _, rfl, _, _, rfl, rfl, _, rfl, ite2 (fun h0 => ?_) (fun h0 => ?_)⟩
      · refine ⟨_, rfl, _, _, rfl, rfl, _, rfl, ite2 (fun h1 => ?_) (fun h1 => ?_)⟩
        · have e : ns.all (inB lo hi) = false := all_take_false hz (by unfold inB; simp_all)
          rw [e] at k
          exact k
        · exact ⟨_, rfl, rfl, by rw [all_take_succ hz, hall]; unfold inB; simp_all⟩
      · refine ⟨_, rfl, iteT ?_⟩
        have h0' : ¬ lo ≤ z := by simpa using h0
        have e : ns.all (inB lo hi) = false := all_take_false hz (by unfold inB; rw [decide_eq_false h0']; rfl)
        rw [e] at k
        exact k
    · intro σ H' h'
      refine bg fun G' g' => ?_
      obtain ⟨v, rfl, rfl, hall⟩ := h'
      refine g' ?_
      clear g' G'
      rw [List.length_map, List.take_length] at hall
      rw [hall] at k
      exact k
theorem ok_is_text (t : T K mg c) : GF P w K mg base CX0 2 "is_text" ["given", "most"] (spText K) := by
  refine t.f_is_text.ok sc_is_text (fun vs H Q E h => ?_) (fun f cdv A outer s H vs Q E hr h => ?_)
  · refine bg fun G' g' => ?_
    obtain ⟨a, ns, m, rfl, _⟩ := h
    refine g' ?_
    clear g' G'
    rfl
  · refine bg fun G' g' => ?_
    obtain ⟨a, ns, m, rfl, hS, k⟩ := h
    refine g' ?_
    clear g' G'
    refine ⟨_, pss_one (ps_ret (pe_and (pe_cmpR op_le (pe_callB call_len_seq (by rfl) t.b_len PySem.boot_len (pa_cons (pv 0) pa_nil)) (pv 1) (nomark _)) (pe_one (pe_callG (ok_all_within t) hr pass0 (pa_cons (pv 0) (pa_cons pe_int (pa_cons pe_int pa_nil))))))), ?_⟩
    refine ⟨_, rfl, a, _, rfl, .inl hS, _, rfl, _, _, rfl, rfl, _, rfl, ite2 (fun h3 => ?_) (fun h3 => ?_)⟩
    · refine ⟨_, rfl, a, ns, _, _, rfl, hS, ?_⟩
      have h3' : (ns.length : Int) ≤ m := by simpa using h3
      have e : textB m ns = ns.all (inB 0 255) := by
        unfold textB
        rw [decide_eq_true h3']
        rfl
      rw [e] at k
      exact k
    · have h3' : ¬ (ns.length : Int) ≤ m := by simpa using h3
      have e : textB m ns = false := by
        unfold textB
        rw [decide_eq_false h3']
        rfl
      rw [e] at k
      exact k
theorem ok_bytes_of (t : T K mg c) : GF P w K mg base CX0 1 "bytes_of" ["words"] spBytes := by
  refine t.f_bytes_of.ok sc_bytes_of (fun vs H Q E h => ?_) (fun f cdv A outer s H vs Q E hr h => ?_)
  · refine bg fun G' g' => ?_
    obtain ⟨x, rfl, _⟩ := h
    refine g' ?_
    clear g' G'
    rfl
  · refine bg fun G' g' => ?_
    obtain ⟨x, rfl, hx, k⟩ := h
    refine g' ?_
    clear g' G'
    refine ⟨_, (pss_one (ps_ret (pe_lc rfl sc_bytes_of.nd (pi_str (pv 0)) (blkOk_by (own := [("sign", 1)]) (show blkC ["words", "sign"] (defScope s_bytes_of) _ _ = true by decide +kernel)) (fun _ _ _ _ _ => pg_name (i := 1) sc_bytes_of.nd rfl (by first | exact Or.inl rfl | exact Or.inr rfl)) (fun _ _ _ _ _ => pts_nil) (fun _ _ _ _ _ => (pe_callB call_ord (by rfl) t.b_ord (show bootBuiltins "ord" = some (.builtin "ord") by decide +kernel) (pa_cons (pv 1) pa_nil)))))), ?_⟩
    refine ⟨_, rfl, x, rfl, fun D hD => lc_str (fun i H' => H' = upd H D (.lst (nI ((tl x).take i)))) (by rw [List.take_zero]; rfl) ?_ ?_⟩
    · rintro i c H' hc rfl
      have hc' : (tl x)[i]? = some c := by
        show x.cps.toList[i]? = some c
        simpa using hc
      refine ⟨rfl, yesT ?_⟩
      refine ⟨_, rfl, _, rfl, rfl, _, upd_same, ?_, ?_⟩
      · rw [nI_len, List.length_take]
        exact Nat.lt_of_le_of_lt (show _ ≤ 100000 by omega) (by decide)
      · rw [upd_upd, List.take_add_one, hc', nI_app]
        rfl
    · rintro H' rfl
      refine k D _ hD ?_ (same_upd hD)
      have e : x.cps.size = (tl x).length := by simp [tl]
      rw [upd_same, e, List.take_length]
theorem ok_Reader_ini (t : T K mg c) : GI P w K mg base CX0 1 c.Reader ["self", "text"] (spInit c.Reader) := by
  refine t.m_Reader_ini.ok sc_Reader___init__ (fun vs H Q E h => ?_) (fun f cdv A outer s H vs Q E hr h => ?_)
  · refine bg fun G' g' => ?_
    obtain ⟨x, dx, a, rfl, _⟩ := h
    refine g' ?_
    clear g' G'
    rfl
  · refine bg fun G' g' => ?_
    obtain ⟨x, dx, a, rfl, hx, k⟩ := h
    refine g' ?_
    clear g' G'
    refine ⟨_, (pss_cons (ps_fld (pv 0) (pv 1) rfl)
      (pss_one (ps_fld (pv 0) pe_int rfl))), ?_⟩
    refine ⟨_, rfl, _, rfl, x, c.Reader, dx, [], rfl, hx, t.c_Reader.2, t.n_Reader_text, (by show 0 < 1000; decide), _, rfl, x, c.Reader, dx, _, rfl, upd_same, t.c_Reader.2, t.n_Reader_at, (by show 1 < 1000; decide), ?_⟩
    refine k _ ⟨dx, upd_same⟩ ?_
    rw [upd_upd]
    exact same_w
theorem ok_Reader_ended (t : T K mg c) : GM P w K mg base CX0 1 c.Reader "ended" ["self"] (spEnded K c.Reader) := by
  refine t.m_Reader_ended.ok sc_Reader_ended (fun vs H Q E h => ?_) (fun f cdv A outer s H vs Q E hr h => ?_)
  · refine bg fun G' g' => ?_
    obtain ⟨rd, a, tt, p, rfl, _⟩ := h
    refine g' ?_
    clear g' G'
    rfl
  · refine bg fun G' g' => ?_
    obtain ⟨rd, a, tt, p, rfl, R, k⟩ := h
    refine g' ?_
    clear g' G'
    obtain ⟨dx, e⟩ := R.ob
    refine ⟨_, (pss_one (ps_ret (pe_cmpR op_eq (pe_fld (pv 0) rfl) (pe_callB call_len_seq (by rfl) t.b_len PySem.boot_len (pa_cons (pe_fld (pv 0) rfl) pa_nil)) (nomark _)))), ?_⟩
    refine ⟨_, rfl, rd, c.Reader, dx, _, _, rfl, e, t.c_Reader.2, t.n_Reader_at, rf_at _ _, _, rfl, rd, c.Reader, dx, _, _, rfl, e, t.c_Reader.2, t.n_Reader_text, rf_text _ _, a, _, rfl, .inl R.tx, rfl, ?_⟩
    have e2 : decide (V.int ((p : Nat) : Int) = V.int (((nI tt).length : Nat) : Int)) = decide (p = tt.length) := by
      rw [nI_len, Bool.eq_iff_iff]
      simp only [decide_eq_true_eq, V.int.injEq]
      omega
    rw [e2]
    exact k
theorem ok_Reader_takes (t : T K mg c) : GM P w K mg base CX0 1 c.Reader "takes" ["self", "wanted"] (spTakes K c.Reader) := by
  refine t.m_Reader_takes.ok sc_Reader_takes (fun vs H Q E h => ?_) (fun f cdv A outer s H vs Q E hr h => ?_)
  · refine bg fun G' g' => ?_
    obtain ⟨rd, a, wa, tt, wl, p, rfl, _⟩ := h
    refine g' ?_
    clear g' G'
    rfl
  · refine bg fun G' g' => ?_
    obtain ⟨rd, a, wa, tt, wl, p, rfl, R, hw, hwl, k1, k2⟩ := h
    refine g' ?_
    clear g' G'
    obtain ⟨dx, e⟩ := R.ob
    have hu := hr.units
    refine ⟨_, (pss_cons (ps_set (i := 2) sc_Reader_takes.nd rfl (by first | exact Or.inl rfl | exact Or.inr rfl) (pe_op op_add (pe_fld (pv 0) rfl) (pe_callB call_len_seq (by rfl) t.b_len PySem.boot_len (pa_cons (pv 1) pa_nil))))
      (pss_cons (ps_if (pt_cmpR (op_neD hu) (pe_callTy call_tuple_of (by rfl) t.b_tuple (show bootBuiltins "tuple" = some (.type "tuple") by decide +kernel) (pa_cons (pe_slice sl_list (pe_fld (pv 0) rfl) (po_some (pe_fld (pv 0) rfl)) (po_some (pv 2))) pa_nil)) (pv 1) (nomark _)) (pss_one (ps_ret pe_bl)) pss_nil)
      (pss_cons (ps_fld (pv 0) (pv 2) rfl)
      (pss_one (ps_ret pe_bl))))), ?_⟩
    refine ⟨_, rfl, rd, c.Reader, dx, _, _, rfl, e, t.c_Reader.2, t.n_Reader_at, rf_at _ _, _, rfl, wa, _, rfl, .inr (hw H), _, _, rfl, rfl, ?_⟩
    refine ⟨_, rfl, rd, c.Reader, dx, _, _, rfl, e, t.c_Reader.2, t.n_Reader_text, rf_text _ _, _, rfl, rd, c.Reader, dx, _, _, rfl, e, t.c_Reader.2, t.n_Reader_at, rf_at _ _, _, rfl, _, rfl, _, rfl, a, _, rfl, R.tx, fun l hl => ?_⟩
    have ecut : cutV (nI tt) (some ((p : Nat) : Int)) (some (((p : Nat) : Int) + (((nI wl).length : Nat) : Int))) = nI ((tt.drop p).take wl.length) := by
      rw [nI_len]
      exact cutV_n tt p wl.length
    refine ⟨l, _, rfl, .inl ⟨SqL.of upd_same, fun l2 hl2 => ?_⟩⟩
    have s1 : Same H (upd H l (.lst (cutV (nI tt) (some ((p : Nat) : Int)) (some (((p : Nat) : Int) + (((nI wl).length : Nat) : Int)))))) := same_upd hl
    have s2 : Same H (upd (upd H l (.lst (cutV (nI tt) (some ((p : Nat) : Int)) (some (((p : Nat) : Int) + (((nI wl).length : Nat) : Int)))))) l2 (.tup (cutV (nI tt) (some ((p : Nat) : Int)) (some (((p : Nat) : Int) + (((nI wl).length : Nat) : Int)))))) := s1.trans (same_upd hl2)
    have st : SqT K (upd (upd H l (.lst (cutV (nI tt) (some ((p : Nat) : Int)) (some (((p : Nat) : Int) + (((nI wl).length : Nat) : Int)))))) l2 (.tup (cutV (nI tt) (some ((p : Nat) : Int)) (some (((p : Nat) : Int) + (((nI wl).length : Nat) : Int)))))) l2 (nI ((tt.drop p).take wl.length)) := by
      rw [← ecut]
      exact SqT.of upd_same
    refine ⟨_, rfl, _, _, dp_tup st, dp_tup (hw _), shaped_t _, shaped_t _, _, rfl, ?_⟩
    simp only [PyData.eqv, eqvAll_n]
    refine ite2 (fun h0 => ?_) (fun h0 => ?_)
    · have hne : ¬ (tt.drop p).take wl.length = wl := by simpa using h0
      exact k2 (by unfold Rd.takeP; rw [if_neg hne]) _ s2
    · have heq : (tt.drop p).take wl.length = wl := by simpa using h0
      have hle : p + wl.length ≤ tt.length := by
        have := congrArg List.length heq
        rw [List.length_take, List.length_drop] at this
        have := R.le
        (clear heq h0 hl2 ecut hl hu e k2 hwl; omega)
      have e2 := s2 _ _ e
      have ev : V.int (((p : Nat) : Int) + (((nI wl).length : Nat) : Int)) = V.int ((p + wl.length : Nat) : Int) := by
        rw [nI_len]
        congr 1
      refine ⟨_, rfl, _, rfl, rd, c.Reader, dx, _, rfl, e2, t.c_Reader.2, t.n_Reader_at, rf_len _ _, ?_⟩
      refine k1 (tt.drop (p + wl.length)) (by unfold Rd.takeP; rw [if_pos heq, List.drop_drop]) (p + wl.length) _ ?_ rfl ?_
      · refine R.go ?_ ⟨dx, ?_⟩ hle
        · exact same_b (hide_same.trans s2) same_w
        · rw [upd_same]
          show some (HO.ins c.Reader dx (putF "at" (V.int (((p : Nat) : Int) + (((nI wl).length : Nat) : Int))) (rf a p))) = _
          rw [ev, rf_put]
      · exact same_b (hide_same.trans s2) same_w
theorem ok_Reader_byte (t : T K mg c) : GM P w K mg base (CXN P w c.NoSuchText) 2 c.Reader "byte" ["self", "least", "most"] (spByteR K c.Reader c.NoSuchText) := by
  refine t.m_Reader_byte.okX sc_Reader_byte (fun vs H Q E h => ?_) (fun f cdv A outer s H vs Q E hr h => ?_)
  · refine bg fun G' g' => ?_
    obtain ⟨rd, a, tt, p, lo, hi, rfl, _⟩ := h
    refine g' ?_
    clear g' G'
    rfl
  · refine bg fun G' g' => ?_
    obtain ⟨rd, a, tt, p, lo, hi, rfl, R, k1, k2⟩ := h
    refine g' ?_
    clear g' G'
    obtain ⟨dx, e⟩ := R.ob
    refine ⟨_, (pss_cons (ps_if (pt_cut (pw_or (pt_val (pe_methG0 (pv 0) t.c_Reader.2 (ok_Reader_ended t) hr pass0)) (pw_or1 (pt_not (pt_chain op_le op_le (pv 1) (pe_ix ix_list (pe_fld (pv 0) rfl) (pe_fld (pv 0) rfl) (fun _ _ => rfl)) (pv 2))))).pt) (pss_one (ps_raise t.x_NoSuchText.2 (by rfl) t.x_NoSuchText.1)) pss_nil)
      (pss_cons (ps_fldaug (pv 0) pe_int in_add)
      (pss_one (ps_ret (pe_ix ix_list (pe_fld (pv 0) rfl) (pe_op op_sub (pe_fld (pv 0) rfl) pe_int) (fun _ _ => rfl)))))), ?_⟩
    refine ⟨fun b H' => H' = H ∧ b = (Rd.byteR lo hi (tt.drop p)).isNone, ?_, ?_⟩
    · refine ⟨_, rfl, rd, dx, _, rfl, e, rf_no _ _ (by decide +kernel) (by decide +kernel), rd, a, tt, p, rfl, R, _, rfl, ite2 (fun h0 => ?_) (fun h0 => ?_)⟩
      · have h0' : p = tt.length := by simpa using h0
        refine ⟨rfl, ?_⟩
        rw [h0', List.drop_length]
        rfl
      · have h0' : ¬ p = tt.length := by simpa using h0
        have hlt : p < tt.length := by have := R.le; omega
        have ed := List.drop_eq_getElem_cons hlt
        refine bg fun G' g' => ?_
        obtain ⟨g1, _, _⟩ := R.at ed
        refine g' ?_
        clear g' G'
        rw [ed]
        refine ⟨_, rfl, _, rfl, rd, c.Reader, dx, _, _, rfl, e, t.c_Reader.2, t.n_Reader_text, rf_text _ _, _, rfl, rd, c.Reader, dx, _, _, rfl, e, t.c_Reader.2, t.n_Reader_at, rf_at _ _, a, _, _, _, rfl, rfl, R.tx, atI_of (j := p) rfl g1, _, _, rfl, rfl, _, rfl, ite2 (fun h1 => ?_) (fun h1 => ?_)⟩
        · have h1' : lo ≤ tt[p] := by
            have : ((lo : Nat) : Int) ≤ ((tt[p] : Nat) : Int) := by simpa using h1
            omega
          refine ⟨_, rfl, _, _, rfl, rfl, _, rfl, rfl, ?_⟩
          rw [Rd.byteR_cons]
          by_cases h2 : tt[p] ≤ hi
          · rw [if_pos ⟨h1', h2⟩, decide_eq_true (by omega)]
            rfl
          · rw [if_neg (fun z => h2 z.2), decide_eq_false (by omega)]
            rfl
        · have h1' : ¬ lo ≤ tt[p] := by
            have : ¬ ((lo : Nat) : Int) ≤ ((tt[p] : Nat) : Int) := by simpa using h1
            omega
          refine ⟨_, rfl, rfl, ?_⟩
          rw [Rd.byteR_cons]
          rw [if_neg (fun z => h1' z.1)]
          rfl
    · rintro b H' ⟨rfl, rfl⟩
      refine ite2 (fun h0 => ?_) (fun h0 => ?_)
      · exact k2 (by simpa using h0) _
      · cases hb : Rd.byteR lo hi (tt.drop p) with
        | none => rw [hb] at h0; exact absurd rfl h0
        | some x =>
          obtain ⟨b, r⟩ := x
          obtain ⟨_, ed⟩ := (Rd.byteR_iff _ _ _ _ _).mp hb
          refine bg fun G' g' => ?_
          obtain ⟨g1, g2, g3⟩ := R.at ed
          refine g' ?_
          clear g' G'
          refine ⟨_, rfl, rd, c.Reader, dx, _, _, rfl, e, t.c_Reader.2, t.n_Reader_at, rf_at _ _, _, _, rfl, rfl, _, _, e, rf_len _ _, ?_⟩
          have e2 : putF "at" (V.int (((p : Nat) : Int) + 1)) (rf a p) = rf a (p + 1) := rf_put a p (p + 1)
          have hR := R.go (H' := upd H' rd (.ins c.Reader dx (rf a (p + 1)))) same_w ⟨dx, upd_same⟩ g3
          rw [e2]
          refine ⟨_, rfl, rd, c.Reader, dx, _, _, rfl, upd_same, t.c_Reader.2, t.n_Reader_text, rf_text _ _, _, rfl, rd, c.Reader, dx, _, _, rfl, upd_same, t.c_Reader.2, t.n_Reader_at, rf_at _ _, _, _, rfl, rfl, a, _, _, _, rfl, rfl, hR.tx, atI_of (j := p) (by omega) g1, ?_⟩
          exact k1 b r hb (p + 1) _ hR g2 same_w
theorem ok_exponent (t : T K mg c) : GF P w K mg base CX0 1 "exponent" ["bits"] spExp := by
  refine t.f_exponent.ok sc_exponent (fun vs H Q E h => ?_) (fun f cdv A outer s H vs Q E hr h => ?_)
  · refine bg fun G' g' => ?_
    obtain ⟨b, rfl, _⟩ := h
    refine g' ?_
    clear g' G'
    rfl
  · refine bg fun G' g' => ?_
    obtain ⟨b, rfl, k⟩ := h
    refine g' ?_
    clear g' G'
    refine ⟨_, (pss_one (ps_ret (pe_op op_mod (pe_op op_shr (pv 0) pe_int) pe_int))), ?_⟩
    refine ⟨_, rfl, _, _, rfl, rfl, (by show (0 : Int) ≤ 52; decide), _, _, rfl, rfl, (by show (0 : Int) < 2048; decide), ?_⟩
    have e : ((b : Nat) : Int) / 2 ^ ((52 : Int)).toNat % 2048 = ((b / 2 ^ 52 % 2048 : Nat) : Int) := by
      rw [Int.natCast_emod, Int.natCast_ediv]
      rfl
    try dsimp only
    rw [e]
    exact k
theorem ok_whole_of (t : T K mg c) : GF P w K mg base CX0 2 "whole_of" ["bits"] spWhole := by
  refine t.f_whole_of.ok sc_whole_of (fun vs H Q E h => ?_) (fun f cdv A outer s H vs Q E hr h => ?_)
  · refine bg fun G' g' => ?_
    obtain ⟨b, rfl, _⟩ := h
    refine g' ?_
    clear g' G'
    rfl
  · refine bg fun G' g' => ?_
    obtain ⟨b, rfl, k⟩ := h
    refine g' ?_
    clear g' G'
    obtain ⟨t_LEAST_NORMAL_WHOLE, e_LEAST_NORMAL_WHOLE⟩ := t.i_LEAST_NORMAL_WHOLE
    refine ⟨_, (pss_cons (ps_set (i := 1) sc_whole_of.nd rfl (by first | exact Or.inl rfl | exact Or.inr rfl) (pe_op op_mod (pv 0) (pe_glob (v := .int 4503599627370496) (by rfl) e_LEAST_NORMAL_WHOLE ⟨t_LEAST_NORMAL_WHOLE, rfl⟩)))
      (pss_one (ps_ret (pe_cut (pe_ifExp (pt_cmpR op_eq (pe_callG (ok_exponent t) hr pass0 (pa_cons (pv 0) pa_nil)) pe_int (nomark _)) (pv 1) (pe_op op_add (pv 1) (pe_glob (v := .int 4503599627370496) (by rfl) e_LEAST_NORMAL_WHOLE ⟨t_LEAST_NORMAL_WHOLE, rfl⟩))))))), ?_⟩
    refine ⟨_, rfl, _, _, rfl, rfl, (by show (0 : Int) < 4503599627370496; decide), ?_⟩
    have eS : Sh27.SIGN = 9223372036854775808 := by decide
    have e52 : (2 : Nat) ^ 52 = 4503599627370496 := by decide
    refine ⟨fun v H' => H' = H ∧ v = .int (DM.whR (b % Sh27.SIGN) : Nat), ?_, fun v H' ⟨e1, e2⟩ => by subst e1; subst e2; exact k⟩
    refine ⟨_, rfl, b, rfl, rfl, _, rfl, ite2 (fun h0 => ?_) (fun h0 => ?_)⟩
    · have h0' : ((b / 2 ^ 52 % 2048 : Nat) : Int) = 0 := by simpa using h0
      refine ⟨_, rfl, rfl, ?_⟩
      show V.int (((b : Nat) : Int) % 4503599627370496) = _
      congr 1
      unfold DM.whR
      rw [eS, e52] at *
      rw [if_pos (by omega)]
      omega
    · have h0' : ¬ ((b / 2 ^ 52 % 2048 : Nat) : Int) = 0 := by simpa using h0
      refine ⟨_, rfl, _, _, rfl, rfl, rfl, ?_⟩
      show V.int (((b : Nat) : Int) % 4503599627370496 + 4503599627370496) = _
      congr 1
      unfold DM.whR
      rw [eS, e52] at *
      rw [if_neg (by omega)]
      omega
theorem ok_power_of (t : T K mg c) : GF P w K mg base CX0 2 "power_of" ["bits"] spPowOf := by
  refine t.f_power_of.ok sc_power_of (fun vs H Q E h => ?_) (fun f cdv A outer s H vs Q E hr h => ?_)
  · refine bg fun G' g' => ?_
    obtain ⟨b, rfl, _⟩ := h
    refine g' ?_
    clear g' G'
    rfl
  · refine bg fun G' g' => ?_
    obtain ⟨b, rfl, k⟩ := h
    refine g' ?_
    clear g' G'
    obtain ⟨t_LEAST_POWER, e_LEAST_POWER⟩ := t.i_LEAST_POWER
    refine ⟨_, (pss_one (ps_ret (pe_op op_add (pe_op op_sub (pe_callB (call_max2 rfl) (by rfl) t.b_max (show bootBuiltins "max" = some (.builtin "max") by decide +kernel) (pa_cons (pe_callG (ok_exponent t) hr pass0 (pa_cons (pv 0) pa_nil)) (pa_cons pe_int pa_nil))) pe_int) (pe_glob (v := .int (-1074)) (by rfl) e_LEAST_POWER ⟨t_LEAST_POWER, rfl⟩)))), ?_⟩
    have eS : Sh27.SIGN = 9223372036854775808 := by decide
    have e52 : (2 : Nat) ^ 52 = 4503599627370496 := by decide
    refine ⟨_, rfl, b, rfl, _, _, rfl, _, _, rfl, rfl, _, _, rfl, rfl, ?_⟩
    have e : (if (1 : Int) > ((b / 2 ^ 52 % 2048 : Nat) : Int) then 1 else ((b / 2 ^ 52 % 2048 : Nat) : Int)) - 1 + -1074 = (DM.exR (b % Sh27.SIGN) : Int) - 1074 := by
      unfold DM.exR
      rw [eS, e52]
      split <;> omega
    try dsimp only
    rw [e]
    exact k
theorem ok_power_of_ten (t : T K mg c) : GF P w K mg base CX0 1 "power_of_ten" ["many"] spTen := by
  refine t.f_power_of_ten.ok sc_power_of_ten (fun vs H Q E h => ?_) (fun f cdv A outer s H vs Q E hr h => ?_)
  · refine bg fun G' g' => ?_
    obtain ⟨m, rfl, _⟩ := h
    refine g' ?_
    clear g' G'
    rfl
  · refine bg fun G' g' => ?_
    obtain ⟨m, rfl, hm, k⟩ := h
    refine g' ?_
    clear g' G'
    refine ⟨_, (pss_cons (ps_set (i := 1) sc_power_of_ten.nd rfl (by first | exact Or.inl rfl | exact Or.inr rfl) pe_int)
      (pss_cons (ps_set (i := 2) sc_power_of_ten.nd rfl (by first | exact Or.inl rfl | exact Or.inr rfl) pe_int)
      (pss_cons (ps_while PassesOwn.never (pt_cmpR op_gt (pv 0) pe_int (nomark _)) (pss_cons (ps_cut (ps_if (pt_cmpR op_eq (pe_op op_mod (pv 0) pe_int) pe_int (nomark _)) (pss_one (ps_aug (i := 1) sc_power_of_ten.nd rfl (by first | exact Or.inl rfl | exact Or.inr rfl) (pv 2) iop_mulB)) pss_nil))
      (pss_cons (ps_aug (i := 2) sc_power_of_ten.nd rfl (by first | exact Or.inl rfl | exact Or.inr rfl) (pv 2) iop_mulB)
      (pss_one (ps_aug (i := 0) sc_power_of_ten.nd rfl (by first | exact Or.inl rfl | exact Or.inr rfl) pe_int iop_fdiv)))))
      (pss_one (ps_ret (pv 1)))))), ?_⟩
    refine ⟨fun me σ H' => ∃ (i : Nat) (z : Int), H' = H ∧ σ = [some (.int z), some (.int ((10 ^ (m.toNat % 2 ^ i) : Nat) : Int)), some (.int ((10 ^ 2 ^ i : Nat) : Int))] ∧ z.toNat = m.toNat / 2 ^ i ∧ me = z.toNat, ⟨_, 0, m, rfl, ?_, ?_, rfl⟩, ?_⟩
    · rw [Nat.pow_zero, Nat.mod_one]
      rfl
    · rw [Nat.pow_zero, Nat.div_one]
    · intro me σ H1 h'
      refine bg fun G' g' => ?_
      obtain ⟨i, z, rfl, rfl, hz, rfl⟩ := h'
      refine g' ?_
      clear g' G'
      refine ⟨_, rfl, _, _, rfl, rfl, _, rfl, ite2 (fun h0 => ?_) (fun h0 => ?_)⟩
      · have h0' : 0 < z := by simpa using h0
        have hi1 : 2 ^ i ≤ m.toNat := by
          have : 0 < m.toNat / 2 ^ i := by omega
          exact (Nat.div_pos_iff.mp this).2
        have hi2 : 2 ^ i ≤ 700 := by (clear h0' h0 hz; omega)
        have hq : m.toNat % 2 ^ i ≤ 700 := by
          have := Nat.mod_lt m.toNat (Nat.two_pow_pos i)
          (clear hi1 h0' h0 hz hm; omega)
        have b1 : Bd 9000 ((10 ^ (m.toNat % 2 ^ i) : Nat) : Int) := (Bd.nat (ten_lt hq)).mono (by decide)
        have b2 : Bd 9000 ((10 ^ 2 ^ i : Nat) : Int) := (Bd.nat (ten_lt hi2)).mono (by decide)
        have hd : m.toNat / 2 ^ (i + 1) = m.toNat / 2 ^ i / 2 := by rw [Nat.pow_succ, Nat.div_div_eq_div_mul]
        have hm1 : m.toNat % 2 ^ (i + 1) = m.toNat % 2 ^ i + 2 ^ i * (m.toNat / 2 ^ i % 2) := Nat.mod_pow_succ
        refine ⟨fun σ' H' => H' = H1 ∧ σ' = [some (.int (z / 2)), some (.int ((10 ^ (m.toNat % 2 ^ (i + 1)) : Nat) : Int)), some (.int ((10 ^ 2 ^ (i + 1) : Nat) : Int))], ?_, ?_⟩
        · rintro σ' H' ⟨rfl, rfl⟩
          exact ⟨(z / 2).toNat, by (clear hd hi2 h0 hm; omega), i + 1, z / 2, rfl, rfl, by rw [hd]; omega, rfl⟩
        · refine ⟨fun σ' H' => H' = H1 ∧ σ' = [some (.int z), some (.int ((10 ^ (m.toNat % 2 ^ (i + 1)) : Nat) : Int)), some (.int ((10 ^ 2 ^ i : Nat) : Int))], ?_, ?_⟩
          · refine ⟨_, rfl, _, _, rfl, rfl, (by show (0 : Int) < 2; decide), rfl, _, rfl, ite2 (fun h1 => ?_) (fun h1 => ?_)⟩
            · have h1' : z % 2 = 1 := by simpa using h1
              refine ⟨_, rfl, _, rfl, _, _, rfl, rfl, ⟨b1, b2⟩, rfl, ?_⟩
              rw [hm1, show m.toNat / 2 ^ i % 2 = 1 by (clear h1 hd hi2 h0 hm; omega), Nat.mul_one, Nat.pow_add, Int.natCast_mul]
              rfl
            · have h1' : ¬ z % 2 = 1 := by simpa using h1
              refine ⟨rfl, ?_⟩
              rw [hm1, show m.toNat / 2 ^ i % 2 = 0 by (clear h1 hd hi2 h0 hm; omega), Nat.mul_zero, Nat.add_zero]
          · rintro σ' H' ⟨rfl, rfl⟩
            refine ⟨_, rfl, _, rfl, _, _, rfl, rfl, ⟨b2, b2⟩, _, rfl, _, _, rfl, rfl, ⟨by decide, by decide⟩, rfl, ?_⟩
            rw [Nat.pow_succ 2 i, Nat.mul_two, Nat.pow_add, Int.natCast_mul]
            rfl
      · have h0' : ¬ 0 < z := by simpa using h0
        refine ⟨_, rfl, ?_⟩
        have e : m.toNat % 2 ^ i = m.toNat := by
          have h1 : m.toNat / 2 ^ i = 0 := by (clear h0 hm; omega)
          exact Nat.mod_eq_of_lt (by
            rcases Nat.div_eq_zero_iff.mp h1 with h2 | h2
            · exact absurd h2 (Nat.ne_of_gt (Nat.two_pow_pos i))
            · exact h2)
        rw [e]
        exact k
end
end S10

set_option Elab.async false
set_option maxRecDepth 100000
set_option linter.all false
namespace S10
open PySem L2 TL Cm
section
variable {P : Program} {w : World} {K : PySem.W.Frag} {mg : Str → Option Value} {base : Heap} {c : Cs}
theorem ok_is_below_nought (t : T K mg c) : GF P w K mg base CX0 1 "is_below_nought" ["bits"] spBelow := by
  refine t.f_is_below_nought.ok sc_is_below_nought (fun vs H Q E h => ?_) (fun f cdv A outer s H vs Q E hr h => ?_)
  · refine bg fun G' g' => ?_
    obtain ⟨b, rfl, _⟩ := h
    refine g' ?_
    clear g' G'
    rfl
  · refine bg fun G' g' => ?_
    obtain ⟨b, rfl, k⟩ := h
    refine g' ?_
    clear g' G'
    obtain ⟨t_SIGN, e_SIGN⟩ := t.i_SIGN
    refine ⟨_, (pss_one (ps_ret (pe_cmpR op_gt (pv 0) (pe_glob (v := .int 9223372036854775808) (by rfl) e_SIGN ⟨t_SIGN, rfl⟩) (nomark _)))), ?_⟩
    refine ⟨_, rfl, _, _, rfl, rfl, ?_⟩
    have eS : Sh27.SIGN = 9223372036854775808 := by decide
    have e : decide ((9223372036854775808 : Int) < ((b : Nat) : Int)) = decide (Sh27.SIGN < b) := by
      rw [Bool.eq_iff_iff, decide_eq_true_eq, decide_eq_true_eq, eS]
      omega
    try dsimp only
    rw [e]
    exact k
theorem ok_places_before_point (t : T K mg c) : GF P w K mg base CX0 2 "places_before_point" ["whole", "power"] spPlaces := by
  refine t.f_places_before_point.ok sc_places_before_point (fun vs H Q E h => ?_) (fun f cdv A outer s H vs Q E hr h => ?_)
  · refine bg fun G' g' => ?_
    obtain ⟨r, rfl, _⟩ := h
    refine g' ?_
    clear g' G'
    rfl
  · refine bg fun G' g' => ?_
    obtain ⟨r, rfl, h0, h1, k⟩ := h
    refine g' ?_
    clear g' G'
    obtain ⟨t_TENS_FOR_THE_LEAST, e_TENS_FOR_THE_LEAST⟩ := t.i_TENS_FOR_THE_LEAST
    refine ⟨_, (pss_cons (ps_if (pt_cmpR op_ge (pv 1) pe_int (nomark _)) (pss_one (ps_ret (pe_callB call_len_str (by rfl) t.b_len PySem.boot_len (pa_cons (pe_callTy call_str_int (by rfl) t.b_str (show bootBuiltins "str" = some (.type "str") by decide +kernel) (pa_cons (pe_op op_shlB (pv 0) (pv 1)) pa_nil)) pa_nil)))) pss_nil)
      (pss_one (ps_ret (pe_op op_sub (pe_callB call_len_str (by rfl) t.b_len PySem.boot_len (pa_cons (pe_callTy call_str_int (by rfl) t.b_str (show bootBuiltins "str" = some (.type "str") by decide +kernel) (pa_cons (pe_op op_shr (pe_op op_mulB (pv 0) (pe_callG (ok_power_of_ten t) hr pass0 (pa_cons (pe_glob (v := .int 341) (by rfl) e_TENS_FOR_THE_LEAST ⟨t_TENS_FOR_THE_LEAST, rfl⟩) pa_nil))) (pe_un un_neg (pv 1))) pa_nil)) pa_nil)) (pe_glob (v := .int 341) (by rfl) e_TENS_FOR_THE_LEAST ⟨t_TENS_FOR_THE_LEAST, rfl⟩))))), ?_⟩
    have hw := DM.wh_lt r
    have he := DM.ex_le h1
    have el : ∀ n : Nat, (Str.ofString (toString ((n : Nat) : Int))).length = (Sh27.natText n).length := fun n => by
      rw [len_tl]
      exact congrArg List.length (tl_num n)
    have lg : ∀ n : Nat, n < 2 ^ 1900 → ((n : Nat) : Int).natAbs.log2 < 1920 := fun n hn => Nat.lt_of_lt_of_le ((Bd.nat hn).log (by decide)) (by decide)
    have ll : ∀ n : Nat, n < 2 ^ 1900 → (Sh27.natText n).length ≤ 2000 := fun n hn => DM.natLen (by decide) (Nat.lt_of_lt_of_le hn (Nat.le_trans (Nat.pow_le_pow_left (by decide) 1900) (Nat.pow_le_pow_right (by decide) (show 1900 ≤ 2000 by decide))))
    refine ⟨_, rfl, _, _, rfl, rfl, _, rfl, ite2 (fun z => ?_) (fun z => ?_)⟩
    · have z' : 1074 ≤ DM.exR r := by
        have : (0 : Int) ≤ (DM.exR r : Int) - 1074 := by simpa using z
        (clear z hw e_TENS_FOR_THE_LEAST h1 h0; omega)
      refine ⟨_, rfl, _, rfl, _, _, rfl, rfl, ⟨by (clear z hw e_TENS_FOR_THE_LEAST h1 h0; omega), by (clear z hw e_TENS_FOR_THE_LEAST h1 h0; omega), (Bd.nat hw).mono (by decide)⟩, ?_⟩
      have ev : ((DM.whR r : Nat) : Int) * 2 ^ ((DM.exR r : Int) - 1074).toNat = ((DM.whR r * 2 ^ (DM.exR r - 1074) : Nat) : Int) := by
        rw [castmul2, show ((DM.exR r : Int) - 1074).toNat = DM.exR r - 1074 by (clear z hw e_TENS_FOR_THE_LEAST h1 h0; omega)]
      try dsimp only
      rw [ev]
      have hb : DM.whR r * 2 ^ (DM.exR r - 1074) < 2 ^ 1900 := Nat.lt_of_lt_of_le (shl_lt (n := 971) hw _ (by (clear ev z hw e_TENS_FOR_THE_LEAST h1 h0; omega))) (Nat.pow_le_pow_right (by decide) (by decide))
      refine ⟨_, rfl, lg _ hb, _, rfl, by rw [el]; exact Nat.le_trans (ll _ hb) (by decide), ?_⟩
      try dsimp only
      rw [show (((Str.ofString (toString ((DM.whR r * 2 ^ (DM.exR r - 1074) : Nat) : Int))).length : Nat) : Int) = DM.placesR r by
        unfold DM.placesR
        rw [if_pos z', el]]
      exact k
    · have z' : ¬ 1074 ≤ DM.exR r := by
        have : ¬ (0 : Int) ≤ (DM.exR r : Int) - 1074 := by simpa using z
        (clear z hw e_TENS_FOR_THE_LEAST h1 h0; omega)
      have t1 : 10 ^ 341 < 2 ^ (4 * 341 + 1) := ten_lt (Nat.le_refl _)
      have hm : DM.whR r * 10 ^ 341 < 2 ^ (53 + (4 * 341 + 1)) := mul_lt2 hw t1
      refine ⟨_, rfl, 341, rfl, by decide, ?_⟩
      have e341 : ((341 : Int)).toNat = 341 := rfl
      rw [e341]
      refine ⟨_, _, rfl, rfl, ⟨(Bd.nat hw).mono (by decide), (Bd.nat t1).mono (by decide)⟩, _, rfl, _, rfl, _, _, rfl, rfl, (by show (0 : Int) ≤ -((DM.exR r : Int) - 1074); (clear e341 hm t1 z hw e_TENS_FOR_THE_LEAST h1 h0; omega)), ?_⟩
      have ev : ((DM.whR r : Nat) : Int) * ((10 ^ 341 : Nat) : Int) / 2 ^ (-((DM.exR r : Int) - 1074)).toNat = ((DM.whR r * 10 ^ 341 / 2 ^ (1074 - DM.exR r) : Nat) : Int) := by
        rw [Int.natCast_ediv, Int.natCast_mul, show (-((DM.exR r : Int) - 1074)).toNat = 1074 - DM.exR r by (clear e341 hm t1 z hw e_TENS_FOR_THE_LEAST h1 h0; omega), Int.natCast_pow]
        rfl
      try dsimp only
      rw [ev]
      have hb : DM.whR r * 10 ^ 341 / 2 ^ (1074 - DM.exR r) < 2 ^ 1900 := Nat.lt_of_le_of_lt (Nat.div_le_self _ _) (Nat.lt_of_lt_of_le hm (Nat.pow_le_pow_right (by decide) (by decide)))
      refine ⟨_, rfl, lg _ hb, _, rfl, by rw [el]; exact Nat.le_trans (ll _ hb) (by decide), _, _, rfl, rfl, ?_⟩
      try dsimp only
      rw [show (((Str.ofString (toString ((DM.whR r * 10 ^ 341 / 2 ^ (1074 - DM.exR r) : Nat) : Int))).length : Nat) : Int) - 341 = DM.placesR r by
        unfold DM.placesR
        rw [if_neg z', el]]
      exact k
theorem ok_picked (t : T K mg c) : GF P w K mg base CX0 1 "picked" ["number", "step", "below", "above", "ends_too"] spPicked := by
  refine t.f_picked.ok sc_picked (fun vs H Q E h => ?_) (fun f cdv A outer s H vs Q E hr h => ?_)
  · refine bg fun G' g' => ?_
    obtain ⟨n, st, be, ab, e, rfl, _⟩ := h
    refine g' ?_
    clear g' G'
    rfl
  · refine bg fun G' g' => ?_
    obtain ⟨n, st, be, ab, e, rfl, hs, hn, hst, k⟩ := h
    refine g' ?_
    clear g' G'
    refine ⟨_, (pss_cons (ps_set (i := 5) sc_picked.nd rfl (by first | exact Or.inl rfl | exact Or.inr rfl) (pe_op op_fdivB (pv 0) (pv 1)))
      (pss_cons (ps_set (i := 6) sc_picked.nd rfl (by first | exact Or.inl rfl | exact Or.inr rfl) (pe_op op_sub (pv 0) (pe_op op_mulB (pv 5) (pv 1))))
      (pss_cons (ps_set (i := 7) sc_picked.nd rfl (by first | exact Or.inl rfl | exact Or.inr rfl) (pe_op op_sub (pv 1) (pv 6)))
      (pss_cons (ps_set (i := 8) sc_picked.nd rfl (by first | exact Or.inl rfl | exact Or.inr rfl) (pe_cut (pe_or (pe_cmpR op_lt (pv 6) (pv 2) (nomark _)) (pe_one (pe_and (pv 4) (pe_one (pe_cmpR op_eq (pv 6) (pv 2) (nomark _))))))))
      (pss_cons (ps_set (i := 9) sc_picked.nd rfl (by first | exact Or.inl rfl | exact Or.inr rfl) (pe_cut (pe_or (pe_cmpR op_lt (pv 7) (pv 3) (nomark _)) (pe_one (pe_and (pv 4) (pe_one (pe_cmpR op_eq (pv 7) (pv 3) (nomark _))))))))
      (pss_cons (ps_if (pt_cut (pw_and (pt_val (pv 8)) (pw_and1 (pt_val (pv 9)))).pt) (pss_one (ps_ret (pe_cut (pe_ifExp (pt_cut (pw_or (pt_cmpR op_lt (pv 6) (pv 7) (nomark _)) (pw_or1 (pw_and (pt_cmpR op_eq (pv 6) (pv 7) (nomark _)) (pw_and1 (pt_cmpR op_eq (pe_op op_mod (pv 5) pe_int) pe_int (nomark _)))).pt)).pt) (pv 5) (pe_op op_add (pv 5) pe_int))))) pss_nil)
      (pss_cons (ps_if (pt_val (pv 8)) (pss_one (ps_ret (pv 5))) pss_nil)
      (pss_one (ps_ret (pe_cut (pe_ifExp (pt_val (pv 9)) (pe_op op_add (pv 5) pe_int) pe_non))))))))))), ?_⟩
    obtain ⟨q, eq⟩ : ∃ q, n / st = q := ⟨_, rfl⟩
    obtain ⟨u, eu⟩ : ∃ u, n - q * st = u := ⟨_, rfl⟩
    have hmod := Nat.div_add_mod n st
    have hlt := Nat.mod_lt n hs
    have hu : u < st := by
      rw [← eu, ← eq, Nat.mul_comm]
      (clear eu eq hst hn hs; omega)
    have hq : q * st ≤ n := by rw [← eq]; exact Nat.div_mul_le_self _ _
    have bq : q < 2 ^ 8000 := by rw [← eq]; exact Nat.lt_of_le_of_lt (Nat.div_le_self _ _) hn
    refine ⟨_, rfl, _, rfl, _, _, rfl, rfl, ⟨by omega, (Bd.nat hst).mono (by decide)⟩, ?_⟩
    try dsimp only
    rw [show ((n : Nat) : Int) / ((st : Nat) : Int) = ((q : Nat) : Int) by rw [← eq]; rfl]
    refine ⟨_, rfl, _, rfl, _, rfl, _, _, rfl, rfl, ⟨(Bd.nat bq).mono (by decide), (Bd.nat hst).mono (by decide)⟩, _, _, rfl, rfl, ?_⟩
    try dsimp only
    rw [show ((n : Nat) : Int) - ((q : Nat) : Int) * ((st : Nat) : Int) = ((u : Nat) : Int) by rw [← Int.natCast_mul]; (clear bq hu hlt eq hst hn hs; omega)]
    refine ⟨_, rfl, _, rfl, _, _, rfl, rfl, ?_⟩
    try dsimp only
    rw [show ((st : Nat) : Int) - ((u : Nat) : Int) = ((st - u : Nat) : Int) by (clear bq hq hlt hmod eu eq hst hn hs; omega)]
    obtain ⟨lo, elo⟩ : ∃ lo, DM.loB n q st be e = lo := ⟨_, rfl⟩
    obtain ⟨hi, ehi⟩ : ∃ hi, DM.hiB n q st ab e = hi := ⟨_, rfl⟩
    obtain ⟨ne, ene⟩ : ∃ ne, DM.nearB n q st = ne := ⟨_, rfl⟩
    have ek : DM.pick n st be ab e = if lo = true ∧ hi = true then some (if ne = true then q else q + 1) else if lo = true then some q else if hi = true then some (q + 1) else none := by
      rw [← elo, ← ehi, ← ene, ← eq]
      rfl
    unfold DM.loB at elo
    unfold DM.hiB at ehi
    unfold DM.nearB at ene
    rw [eu] at elo ehi ene
    rw [ek] at k
    refine ⟨fun v H' => H' = H ∧ v = .bl lo, ?_, ?_⟩
    · refine ⟨_, rfl, _, rfl, _, _, rfl, rfl, _, rfl, ite2 (fun z => ?_) (fun z => ?_)⟩
      · have z' : u < be := by
          have : ((u : Nat) : Int) < ((be : Nat) : Int) := by simpa using z
          (clear z ek ene ehi elo bq hq hu hlt hmod eu eq hst hn hs; omega)
        exact ⟨rfl, by rw [← elo, decide_eq_true z']; rfl⟩
      · have z' : ¬ u < be := by
          have : ¬ ((u : Nat) : Int) < ((be : Nat) : Int) := by simpa using z
          (clear z ek ene ehi elo bq hq hu hlt hmod eu eq hst hn hs; omega)
        rw [decide_eq_false z', Bool.false_or] at elo
        refine ⟨_, rfl, _, rfl, ite2 (fun y => ?_) (fun y => ?_)⟩
        · refine ⟨_, rfl, _, rfl, rfl, rfl, ?_⟩
          congr 1
          rw [← elo, y, Bool.true_and, Bool.eq_iff_iff]
          simp only [decide_eq_true_eq, V.int.injEq]
          (clear y z' z ek ene ehi elo bq hq hu hlt hmod eu eq hst hn hs; omega)
        · have y' : e = false := by simpa using y
          exact ⟨rfl, by rw [← elo, y', Bool.false_and]⟩
    · rintro v H1 ⟨rfl, rfl⟩
      refine ⟨fun v H' => H' = H1 ∧ v = .bl hi, ?_, ?_⟩
      · refine ⟨_, rfl, _, rfl, _, _, rfl, rfl, _, rfl, ite2 (fun z => ?_) (fun z => ?_)⟩
        · have z' : st - u < ab := by
            have : ((st - u : Nat) : Int) < ((ab : Nat) : Int) := by simpa using z
            (clear z ek ene ehi elo bq hq hu hlt hmod eu eq hst hn hs; omega)
          exact ⟨rfl, by rw [← ehi, decide_eq_true z']; rfl⟩
        · have z' : ¬ st - u < ab := by
            have : ¬ ((st - u : Nat) : Int) < ((ab : Nat) : Int) := by simpa using z
            (clear z ek ene ehi elo bq hq hu hlt hmod eu eq hst hn hs; omega)
          rw [decide_eq_false z', Bool.false_or] at ehi
          refine ⟨_, rfl, _, rfl, ite2 (fun y => ?_) (fun y => ?_)⟩
          · refine ⟨_, rfl, _, rfl, rfl, rfl, ?_⟩
            congr 1
            rw [← ehi, y, Bool.true_and, Bool.eq_iff_iff]
            simp only [decide_eq_true_eq, V.int.injEq]
            (clear y z' z ek ene ehi elo bq hq hu hlt hmod eu eq hst hn hs; omega)
          · have y' : e = false := by simpa using y
            exact ⟨rfl, by rw [← ehi, y', Bool.false_and]⟩
      · rintro v H2 ⟨rfl, rfl⟩
        refine ⟨fun b H' => H' = H2 ∧ b = (lo && hi), ?_, ?_⟩
        · refine ⟨_, rfl, _, rfl, ite2 (fun z => ?_) (fun z => ?_)⟩
          · exact ⟨_, rfl, _, rfl, rfl, by rw [z, Bool.true_and]⟩
          · have z' : lo = false := by simpa using z
            exact ⟨rfl, by rw [z', Bool.false_and]⟩
        · rintro b H3 ⟨rfl, rfl⟩
          refine ite2 (fun z => ?_) (fun z => ?_)
          · rw [Bool.and_eq_true] at z
            rw [if_pos z] at k
            refine ⟨fun v H' => H' = H3 ∧ v = .int ((if ne = true then q else q + 1 : Nat) : Int), ?_, fun v H' ⟨e1, e2⟩ => by subst e1; subst e2; exact k⟩
            refine ⟨fun b H' => H' = H3 ∧ b = ne, ?_, ?_⟩
            · refine ⟨_, rfl, _, rfl, _, _, rfl, rfl, _, rfl, ite2 (fun y => ?_) (fun y => ?_)⟩
              · have y' : u < st - u := by
                  have : ((u : Nat) : Int) < ((st - u : Nat) : Int) := by simpa using y
                  (clear y z ek ene ehi elo bq hq hu hlt hmod eu eq hst hn hs; omega)
                exact ⟨rfl, by rw [← ene, decide_eq_true y']; rfl⟩
              · have y' : ¬ u < st - u := by
                  have : ¬ ((u : Nat) : Int) < ((st - u : Nat) : Int) := by simpa using y
                  (clear y z ek ene ehi elo bq hq hu hlt hmod eu eq hst hn hs; omega)
                rw [decide_eq_false y', Bool.false_or] at ene
                refine ⟨_, rfl, _, rfl, rfl, _, rfl, ite2 (fun x => ?_) (fun x => ?_)⟩
                · have x' : u = st - u := by
                    have : ((u : Nat) : Int) = ((st - u : Nat) : Int) := by simpa using x
                    (clear x y' y z ek ene ehi elo bq hq hu hlt hmod eu eq hst hn hs; omega)
                  rw [decide_eq_true x', Bool.true_and] at ene
                  refine ⟨_, rfl, _, _, rfl, rfl, (by show (0 : Int) < 2; decide), rfl, _, rfl, rfl, ?_⟩
                  rw [← ene, Bool.eq_iff_iff]
                  simp only [decide_eq_true_eq, V.int.injEq]
                  (clear x' x y' y z ek ene ehi elo bq hq hu hlt hmod eu eq hst hn hs; omega)
                · have x' : ¬ u = st - u := by
                    have : ¬ ((u : Nat) : Int) = ((st - u : Nat) : Int) := by simpa using x
                    (clear x y' y z ek ene ehi elo bq hq hu hlt hmod eu eq hst hn hs; omega)
                  rw [decide_eq_false x', Bool.false_and] at ene
                  exact ⟨rfl, ene⟩
            · rintro b H4 ⟨rfl, rfl⟩
              refine ite2 (fun y => ?_) (fun y => ?_)
              · exact ⟨_, rfl, rfl, by rw [if_pos y]⟩
              · exact ⟨_, rfl, _, _, rfl, rfl, rfl, by rw [if_neg y]; rfl⟩
          · rw [Bool.and_eq_true] at z
            rw [if_neg z] at k
            refine ⟨_, rfl, _, rfl, ite2 (fun y => ?_) (fun y => ?_)⟩
            · rw [if_pos y] at k
              exact ⟨_, rfl, k⟩
            · rw [if_neg y] at k
              refine ⟨fun v H' => H' = H3 ∧ v = pickV (if hi = true then some (q + 1) else none), ?_, fun v H' ⟨e1, e2⟩ => by subst e1; subst e2; exact k⟩
              refine ⟨_, rfl, _, rfl, ite2 (fun x => ?_) (fun x => ?_)⟩
              · exact ⟨_, rfl, _, _, rfl, rfl, rfl, by rw [if_pos x]; rfl⟩
              · exact ⟨rfl, by rw [if_neg x]; rfl⟩
end
end S10

set_option Elab.async false
set_option maxRecDepth 100000
set_option linter.all false
namespace S10
open PySem L2 TL Cm
section
variable {P : Program} {w : World} {K : PySem.W.Frag} {mg : Str → Option Value} {base : Heap} {c : Cs}
theorem ok_shortest (t : T K mg c) : GF P w K mg base CX0 3 "shortest" ["whole", "power"] spShort := by
  refine t.f_shortest.ok sc_shortest (fun vs H Q E h => ?_) (fun f cdv A outer s H vs Q E hr h => ?_)
  · refine bg fun G' g' => ?_
    obtain ⟨r, rfl, _⟩ := h
    refine g' ?_
    clear g' G'
    rfl
  · refine bg fun G' g' => ?_
    obtain ⟨r, rfl, h0, h1, k⟩ := h
    refine g' ?_
    clear g' G'
    obtain ⟨t_MOST_DIGITS, e_MOST_DIGITS⟩ := t.i_MOST_DIGITS
    obtain ⟨t_LEAST_POWER, e_LEAST_POWER⟩ := t.i_LEAST_POWER
    obtain ⟨t_LEAST_NORMAL_WHOLE, e_LEAST_NORMAL_WHOLE⟩ := t.i_LEAST_NORMAL_WHOLE
    refine ⟨_, (pss_cons (ps_set (i := 2) sc_shortest.nd rfl (by first | exact Or.inl rfl | exact Or.inr rfl) (pe_op op_sub (pe_callG (ok_places_before_point t) hr pass0 (pa_cons (pv 0) (pa_cons (pv 1) pa_nil))) (pe_glob (v := .int 17) (by rfl) e_MOST_DIGITS ⟨t_MOST_DIGITS, rfl⟩)))
      (pss_cons (ps_set (i := 3) sc_shortest.nd rfl (by first | exact Or.inl rfl | exact Or.inr rfl) (pe_op op_shlB (pe_callG (ok_power_of_ten t) hr pass0 (pa_cons (pe_callB (call_max2 rfl) (by rfl) t.b_max (show bootBuiltins "max" = some (.builtin "max") by decide +kernel) (pa_cons (pe_un un_neg (pv 2)) (pa_cons pe_int pa_nil))) pa_nil)) (pe_callB (call_max2 rfl) (by rfl) t.b_max (show bootBuiltins "max" = some (.builtin "max") by decide +kernel) (pa_cons (pe_op op_sub (pv 1) pe_int) (pa_cons pe_int pa_nil)))))
      (pss_cons (ps_set (i := 4) sc_shortest.nd rfl (by first | exact Or.inl rfl | exact Or.inr rfl) (pe_op op_shlB (pe_callG (ok_power_of_ten t) hr pass0 (pa_cons (pe_callB (call_max2 rfl) (by rfl) t.b_max (show bootBuiltins "max" = some (.builtin "max") by decide +kernel) (pa_cons (pv 2) (pa_cons pe_int pa_nil))) pa_nil)) (pe_callB (call_max2 rfl) (by rfl) t.b_max (show bootBuiltins "max" = some (.builtin "max") by decide +kernel) (pa_cons (pe_op op_sub pe_int (pv 1)) (pa_cons pe_int pa_nil)))))
      (pss_cons (ps_set (i := 5) sc_shortest.nd rfl (by first | exact Or.inl rfl | exact Or.inr rfl) (pe_cut (pe_ifExp (pt_cut (pw_and (pt_cmpR op_eq (pv 0) (pe_glob (v := .int 4503599627370496) (by rfl) e_LEAST_NORMAL_WHOLE ⟨t_LEAST_NORMAL_WHOLE, rfl⟩) (nomark _)) (pw_and1 (pt_cmpR op_gt (pv 1) (pe_glob (v := .int (-1074)) (by rfl) e_LEAST_POWER ⟨t_LEAST_POWER, rfl⟩) (nomark _)))).pt) (pv 3) (pe_op op_mulB pe_int (pv 3)))))
      (pss_cons (ps_set (i := 6) sc_shortest.nd rfl (by first | exact Or.inl rfl | exact Or.inr rfl) (pe_glob (v := .int 17) (by rfl) e_MOST_DIGITS ⟨t_MOST_DIGITS, rfl⟩))
      (pss_cons (ps_set (i := 7) sc_shortest.nd rfl (by first | exact Or.inl rfl | exact Or.inr rfl) pe_non)
      (pss_cons (ps_while PassesOwn.never (pt_cmpR op_isN (pv 7) pe_non (nomark _)) (pss_cons (ps_aug (i := 6) sc_shortest.nd rfl (by first | exact Or.inl rfl | exact Or.inr rfl) pe_int iop_sub)
      (pss_one (ps_set (i := 7) sc_shortest.nd rfl (by first | exact Or.inl rfl | exact Or.inr rfl) (pe_callG (ok_picked t) hr pass0 (pa_cons (pe_op op_mulB (pe_op op_mulB pe_int (pv 0)) (pv 3)) (pa_cons (pe_op op_mulB (pv 4) (pe_callG (ok_power_of_ten t) hr pass0 (pa_cons (pv 6) pa_nil))) (pa_cons (pv 5) (pa_cons (pe_op op_mulB pe_int (pv 3)) (pa_cons (pe_cmpR op_eq (pe_op op_mod (pv 0) pe_int) pe_int (nomark _)) pa_nil))))))))))
      (pss_cons (ps_set (i := 8) sc_shortest.nd rfl (by first | exact Or.inl rfl | exact Or.inr rfl) (pe_callTy call_str_int (by rfl) t.b_str (show bootBuiltins "str" = some (.type "str") by decide +kernel) (pa_cons (pv 7) pa_nil)))
      (pss_one (ps_ret (pe_tup (pa_cons (pe_bm PySem.F.plainAttrs_str PySem.F.slot_str_rstrip PySem.F.type_str_rstrip mt_rstripC (pv 8) (pa_cons pe_str pa_nil)) (pa_cons (pe_op op_add (pe_op op_add (pe_callB call_len_str (by rfl) t.b_len PySem.boot_len (pa_cons (pv 8) pa_nil)) (pv 2)) (pv 6)) pa_nil))))))))))))), ?_⟩
    refine bg fun G' g' => ?_
    obtain ⟨_, p1, p2⟩ := DM.places_pt h0 h1
    refine g' ?_
    clear g' G'
    have he := DM.ex_le h1
    have hw := DM.wh_lt r
    have h17 := DM.pick_17 h0 h1
    have hin : ∀ {k n : Nat}, k ≤ 17 → DM.pickK r (DM.placesR r) k = some n → 0 < n ∧ n ≤ 10 ^ k := fun a b => DM.pick_in h0 h1 a b
    refine ⟨_, rfl, _, rfl, r, rfl, h0, h1, _, _, rfl, rfl, ?_⟩
    generalize DM.placesR r = p at *
    refine ⟨_, rfl, _, rfl, _, _, rfl, ?_⟩
    try dsimp only
    rw [max0]
    refine ⟨_, rfl, by (clear h17 hw he e_LEAST_NORMAL_WHOLE e_LEAST_POWER e_MOST_DIGITS h1 h0; omega), ?_⟩
    rw [Int.toNat_natCast]
    refine ⟨_, rfl, _, _, rfl, rfl, _, _, rfl, ?_⟩
    try dsimp only
    rw [max0]
    have t1 : 10 ^ (-(p - 17)).toNat < 2 ^ (4 * 370 + 1) := ten_lt (by (clear h17 hw he e_LEAST_NORMAL_WHOLE e_LEAST_POWER e_MOST_DIGITS h1 h0; omega))
    refine ⟨_, _, rfl, rfl, ⟨by (clear t1 h17 p2 p1 hw e_LEAST_NORMAL_WHOLE e_LEAST_POWER e_MOST_DIGITS h1 h0; omega), by (clear t1 h17 p2 p1 hw e_LEAST_NORMAL_WHOLE e_LEAST_POWER e_MOST_DIGITS h1 h0; omega), (Bd.nat t1).mono (by decide)⟩, ?_⟩
    try dsimp only
    rw [Int.toNat_natCast, castmul2, show 10 ^ (-(p - 17)).toNat * 2 ^ ((DM.exR r : Int) - 1074 - 2).toNat = DM.unitR (DM.exR r) (p - 17) from rfl]
    have bA : DM.unitR (DM.exR r) (p - 17) < 2 ^ (4 * 370 + 1 + 1000) := shl_lt t1 _ (by (clear t1 h17 p2 p1 hw e_LEAST_NORMAL_WHOLE e_LEAST_POWER e_MOST_DIGITS h1 h0; omega))
    refine ⟨_, rfl, _, _, rfl, ?_⟩
    try dsimp only
    rw [max0]
    refine ⟨_, rfl, by (clear bA t1 h17 hw he e_LEAST_NORMAL_WHOLE e_LEAST_POWER e_MOST_DIGITS h1 h0; omega), ?_⟩
    rw [Int.toNat_natCast]
    refine ⟨_, rfl, _, _, rfl, rfl, _, _, rfl, ?_⟩
    try dsimp only
    rw [max0]
    have t2 : 10 ^ (p - 17).toNat < 2 ^ (4 * 300 + 1) := ten_lt (by (clear bA t1 h17 hw he e_LEAST_NORMAL_WHOLE e_LEAST_POWER e_MOST_DIGITS h1 h0; omega))
    refine ⟨_, _, rfl, rfl, ⟨by (clear t2 bA t1 h17 p2 p1 hw e_LEAST_NORMAL_WHOLE e_LEAST_POWER e_MOST_DIGITS h1 h0; omega), by (clear t2 bA t1 h17 p2 p1 hw e_LEAST_NORMAL_WHOLE e_LEAST_POWER e_MOST_DIGITS h1 h0; omega), (Bd.nat t2).mono (by decide)⟩, ?_⟩
    try dsimp only
    rw [Int.toNat_natCast, castmul2, show 10 ^ (p - 17).toNat * 2 ^ (2 - ((DM.exR r : Int) - 1074)).toNat = DM.oneR (DM.exR r) (p - 17) from rfl]
    have bO : DM.oneR (DM.exR r) (p - 17) < 2 ^ (4 * 300 + 1 + 1100) := shl_lt t2 _ (by (clear t2 bA t1 h17 p2 p1 hw e_LEAST_NORMAL_WHOLE e_LEAST_POWER e_MOST_DIGITS h1 h0; omega))
    have eK : ∀ i, DM.pickK r p i = DM.pick (4 * DM.whR r * DM.unitR (DM.exR r) (p - 17)) (DM.oneR (DM.exR r) (p - 17) * 10 ^ (17 - i)) (DM.beta r * DM.unitR (DM.exR r) (p - 17)) (2 * DM.unitR (DM.exR r) (p - 17)) (decide (DM.whR r % 2 = 0)) := fun i => rfl
    have hO : 0 < DM.oneR (DM.exR r) (p - 17) := Nat.mul_pos (Nat.pow_pos (by decide)) (Nat.two_pow_pos _)
    generalize DM.unitR (DM.exR r) (p - 17) = U at *
    generalize DM.oneR (DM.exR r) (p - 17) = O at *
    have bU : Bd 9000 ((U : Nat) : Int) := (Bd.nat bA).mono (by decide)
    have b2 : Bd 9000 (2 : Int) := (Bd.nat (k := 9) (n := 2) (by decide)).mono (by decide)
    have b4 : Bd 9000 (4 : Int) := (Bd.nat (k := 9) (n := 4) (by decide)).mono (by decide)
    -- below
    refine ⟨fun v H' => H' = H ∧ v = .int ((DM.beta r * U : Nat) : Int), ?_, ?_⟩
    · refine ⟨fun b H' => H' = H ∧ b = decide (DM.whR r = 2 ^ 52 ∧ 0 < DM.exR r), ?_, ?_⟩
      · refine ⟨_, rfl, rfl, _, rfl, ite2 (fun z => ?_) (fun z => ?_)⟩
        · have z' : ((DM.whR r : Nat) : Int) = 4503599627370496 := by simpa using z
          refine ⟨_, rfl, _, _, rfl, rfl, _, rfl, rfl, ?_⟩
          rw [Bool.eq_iff_iff]
          simp only [decide_eq_true_eq]
          have e52 : (2 : Nat) ^ 52 = 4503599627370496 := by decide
          constructor
          · intro y
            exact ⟨by (clear y e52 z hO bO bA t2 t1 h17 p2 p1 hw he e_LEAST_NORMAL_WHOLE e_LEAST_POWER e_MOST_DIGITS h1 h0; omega), by (clear e52 z' z hO bO bA t2 t1 h17 p2 p1 hw e_LEAST_NORMAL_WHOLE e_LEAST_POWER e_MOST_DIGITS h1 h0; omega)⟩
          · intro y
            (clear e52 z' z hO bO bA t2 t1 h17 p2 p1 hw e_LEAST_NORMAL_WHOLE e_LEAST_POWER e_MOST_DIGITS h1 h0; omega)
        · have z' : ¬ ((DM.whR r : Nat) : Int) = 4503599627370496 := by simpa using z
          have e52 : (2 : Nat) ^ 52 = 4503599627370496 := by decide
          exact ⟨rfl, (decide_eq_false (fun y => by (clear e52 z hO bO bA t2 t1 h17 p2 p1 hw he e_LEAST_NORMAL_WHOLE e_LEAST_POWER e_MOST_DIGITS h1 h0; omega))).symm⟩
      · rintro b H1 ⟨rfl, rfl⟩
        refine ite2 (fun z => ?_) (fun z => ?_)
        · have z' := of_decide_eq_true z
          refine ⟨_, rfl, rfl, ?_⟩
          rw [show DM.beta r = 1 from if_pos z', Nat.one_mul]
        · have z' : ¬ (DM.whR r = 2 ^ 52 ∧ 0 < DM.exR r) := by simpa using z
          refine ⟨_, rfl, _, _, rfl, rfl, ⟨b2, bU⟩, rfl, ?_⟩
          rw [show DM.beta r = 2 from if_neg z', Int.natCast_mul]
          rfl
    · rintro v H1 ⟨rfl, rfl⟩
      -- the search
      refine ⟨fun me σ H' => ∃ (i : Nat), H' = H1 ∧ σ = [some (.int (DM.whR r : Nat)), some (.int ((DM.exR r : Int) - 1074)), some (.int (p - 17)), some (.int (U : Nat)), some (.int (O : Nat)), some (.int ((DM.beta r * U : Nat) : Int)), some (.int (17 - (i : Int))), some (pickV (if i = 0 then none else DM.pickK r p i)), none] ∧ i ≤ 17 ∧ (∀ j, j + 1 < i → DM.pickK r p (j + 1) = none) ∧ me = 17 - i,
        ⟨17, 0, rfl, rfl, by decide, fun j hj => by (clear hO bO bA t2 t1 h17 p2 p1 hw he e_LEAST_NORMAL_WHOLE e_LEAST_POWER e_MOST_DIGITS h1 h0; omega), rfl⟩, ?_⟩
      intro me σ H2 h'
      refine bg fun G' g' => ?_
      obtain ⟨i, rfl, rfl, hi, hnone, rfl⟩ := h'
      refine g' ?_
      clear g' G'
      refine ⟨_, rfl, rfl, _, rfl, ite2 (fun z => ?_) (fun z => ?_)⟩
      · have z' : (if i = 0 then none else DM.pickK r p i) = none := by
          cases e : (if i = 0 then none else DM.pickK r p i) with
          | none => rfl
          | some n =>
            rw [e] at z
            exact absurd z (by simp [pickV])
        have hi16 : i < 17 := by
          rcases Nat.lt_or_ge i 17 with y | y
          · exact y
          · have e17 : i = 17 := by (clear z' z hO bO bA t2 t1 h17 p2 p1 hw he e_LEAST_NORMAL_WHOLE e_LEAST_POWER e_MOST_DIGITS h1 h0; omega)
            subst e17
            exact absurd z' h17
        have hnone' : ∀ j, j + 1 < i + 1 → DM.pickK r p (j + 1) = none := fun j hj => by
          rcases Nat.lt_or_ge (j + 1) i with y | y
          · exact hnone j y
          · have : j + 1 = i := by (clear hi16 z' z hi hO bO bA t2 t1 h17 p2 p1 hw he e_LEAST_NORMAL_WHOLE e_LEAST_POWER e_MOST_DIGITS h1 h0; omega)
            rw [this]
            rw [if_neg (by (clear this z' z hO bO bA t2 t1 h17 p2 p1 hw he e_LEAST_NORMAL_WHOLE e_LEAST_POWER e_MOST_DIGITS h1 h0; omega))] at z'
            exact z'
        refine ⟨fun σ' H' => H' = H2 ∧ σ' = [some (.int (DM.whR r : Nat)), some (.int ((DM.exR r : Int) - 1074)), some (.int (p - 17)), some (.int (U : Nat)), some (.int (O : Nat)), some (.int ((DM.beta r * U : Nat) : Int)), some (.int (17 - ((i + 1 : Nat) : Int))), some (pickV (DM.pickK r p (i + 1))), none], ?_, ?_⟩
        · rintro σ' H' ⟨rfl, rfl⟩
          exact ⟨17 - (i + 1), by (clear z' z hO bO bA t2 t1 h17 p2 p1 hw he e_LEAST_NORMAL_WHOLE e_LEAST_POWER e_MOST_DIGITS h1 h0; omega), i + 1, rfl, by rw [if_neg (by (clear z' z hO bO bA t2 t1 h17 p2 p1 hw he e_LEAST_NORMAL_WHOLE e_LEAST_POWER e_MOST_DIGITS h1 h0; omega))], by (clear z' z hO bO bA t2 t1 h17 p2 p1 hw he e_LEAST_NORMAL_WHOLE e_LEAST_POWER e_MOST_DIGITS h1 h0; omega), hnone', rfl⟩
        · have e1 : (17 - (i : Int) - 1) = 17 - ((i + 1 : Nat) : Int) := by (clear hi16 z' z hi hO bO bA t2 t1 h17 p2 p1 hw he e_LEAST_NORMAL_WHOLE e_LEAST_POWER e_MOST_DIGITS h1 h0; omega)
          have t3 : 10 ^ (17 - (i + 1)) < 2 ^ (4 * 17 + 1) := ten_lt (by (clear e1 z' z hO bO bA t2 t1 h17 p2 p1 hw he e_LEAST_NORMAL_WHOLE e_LEAST_POWER e_MOST_DIGITS h1 h0; omega))
          have et : (17 - ((i + 1 : Nat) : Int)).toNat = 17 - (i + 1) := by (clear t3 e1 z' z hO bO bA t2 t1 h17 p2 p1 hw he e_LEAST_NORMAL_WHOLE e_LEAST_POWER e_MOST_DIGITS h1 h0; omega)
          refine ⟨_, rfl, _, _, rfl, rfl, ?_⟩
          try dsimp only
          rw [e1]
          have hw55 : 4 * DM.whR r < 2 ^ 55 := by
            have : (2 : Nat) ^ 55 = 4 * 2 ^ 53 := by decide
            (clear this et t3 e1 hi16 z' z hi hO bO bA t2 t1 h17 p2 p1 he e_LEAST_NORMAL_WHOLE e_LEAST_POWER e_MOST_DIGITS h1 h0; omega)
          refine ⟨_, rfl, _, _, rfl, rfl, ⟨b4, (Bd.nat hw).mono (by decide)⟩, _, rfl, _, _, rfl, rfl, ⟨?_, bU⟩, _, rfl, _, rfl, _, rfl, by (clear hw55 et t3 e1 z' z hO bO bA t2 t1 h17 p2 p1 hw he e_LEAST_NORMAL_WHOLE e_LEAST_POWER e_MOST_DIGITS h1 h0; omega), ?_⟩
          · show Bd 9000 ((4 : Int) * ((DM.whR r : Nat) : Int))
            have : (4 : Int) * ((DM.whR r : Nat) : Int) = ((4 * DM.whR r : Nat) : Int) := by (clear hw55 et t3 e1 hi16 z' z hi hO bO bA t2 t1 h17 p2 p1 hw he e_LEAST_NORMAL_WHOLE e_LEAST_POWER e_MOST_DIGITS h1 h0; omega)
            rw [this]
            exact (Bd.nat hw55).mono (by decide)
          · rw [et]
            refine ⟨_, _, rfl, rfl, ⟨(Bd.nat bO).mono (by decide), (Bd.nat t3).mono (by decide)⟩, _, rfl, _, rfl, _, _, rfl, rfl, ⟨b2, bU⟩, _, rfl, _, _, rfl, rfl, (by show (0 : Int) < 2; decide), rfl, ?_⟩
            refine ⟨4 * DM.whR r * U, O * 10 ^ (17 - (i + 1)), DM.beta r * U, 2 * U, decide (DM.whR r % 2 = 0), ?_, Nat.mul_pos hO (Nat.pow_pos (by decide)), Nat.lt_of_lt_of_le (mul_lt2 hw55 bA) (Nat.pow_le_pow_right (by decide) (by decide)), Nat.lt_of_lt_of_le (mul_lt2 bO t3) (Nat.pow_le_pow_right (by decide) (by decide)), ?_⟩
            · have e3 : decide (V.int (((DM.whR r : Nat) : Int) % 2) = V.int 0) = decide (DM.whR r % 2 = 0) := by
                rw [Bool.eq_iff_iff]
                simp only [decide_eq_true_eq, V.int.injEq]
                (clear hw55 et t3 e1 hi16 z' z hi hO bO bA t2 t1 h17 p2 p1 hw he e_LEAST_NORMAL_WHOLE e_LEAST_POWER e_MOST_DIGITS h1 h0; omega)
              show [V.int ((4 : Int) * ((DM.whR r : Nat) : Int) * ((U : Nat) : Int)), V.int (((O : Nat) : Int) * ((10 ^ (17 - (i + 1)) : Nat) : Int)), V.int ((DM.beta r * U : Nat) : Int), V.int ((2 : Int) * ((U : Nat) : Int)), V.bl (decide (V.int (((DM.whR r : Nat) : Int) % 2) = V.int 0))] ++ [] = _
              rw [e3, Int.natCast_mul (4 * DM.whR r), Int.natCast_mul 4, Int.natCast_mul O, Int.natCast_mul 2]
              rfl
            · rw [← eK]
              exact ⟨rfl, rfl⟩
      · have z' : (if i = 0 then none else DM.pickK r p i) ≠ none := fun y => by
          rw [y] at z
          exact z rfl
        have hi0 : i ≠ 0 := fun y => by
          rw [if_pos y] at z'
          exact z' rfl
        obtain ⟨i, rfl⟩ : ∃ j, i = j + 1 := ⟨i - 1, by (clear z' z hO bO bA t2 t1 h17 p2 p1 hw he e_LEAST_NORMAL_WHOLE e_LEAST_POWER e_MOST_DIGITS h1 h0; omega)⟩
        rw [if_neg hi0] at z' ⊢
        obtain ⟨n, hn⟩ := Option.ne_none_iff_exists'.mp z'
        rw [hn]
        obtain ⟨n0, n1⟩ := hin hi hn
        have n2 : n < 10 ^ 18 := by
          have a1 : 10 ^ (i + 1) ≤ 10 ^ 17 := Nat.pow_le_pow_right (by decide) hi
          have a2 : (10 : Nat) ^ 17 < 10 ^ 18 := by decide
          (clear a2 n0 hn hi0 z' z hi hO bO bA t2 t1 h17 p2 p1 hw he e_LEAST_NORMAL_WHOLE e_LEAST_POWER e_MOST_DIGITS h1 h0; omega)
        have hlog : ((n : Nat) : Int).natAbs.log2 < 1920 := Nat.lt_of_lt_of_le ((Bd.nat (Nat.lt_trans n2 (ten_lt (n := 18) (k := 18) (Nat.le_refl _)))).log (by decide)) (by decide)
        have el : (Str.ofString (toString ((n : Nat) : Int))).length = (Sh27.natText n).length := by
          rw [len_tl]
          exact congrArg List.length (tl_num n)
        have l18 := DM.natLen (k := 18) (by decide) n2
        have hz : (Str.ofString (toString ((n : Nat) : Int))).length ≤ sizeLine := by rw [el]; exact Nat.le_trans l18 (by decide)
        refine ⟨_, rfl, _, rfl, hlog, _, rfl, rfl, _, _, rfl, rfl, hz, _, rfl, _, rfl, hz, _, rfl, _, _, rfl, rfl, _, rfl, _, _, rfl, rfl, (by show 2 ≤ sizeLine; decide), fun l hl => ?_⟩
        refine k i n hi hn (fun j hj => hnone j (by (clear hl hz l18 el hlog n2 n1 n0 hn hi0 z' z hi hO bO bA t2 t1 h17 p2 p1 hw he e_LEAST_NORMAL_WHOLE e_LEAST_POWER e_MOST_DIGITS h1 h0; omega))) _ l _ (tl_rstrip0 _ |>.trans (congrArg DM.rs (tl_num n))) ?_ (same_upd hl)
        rw [upd_same]
        show some (HO.tup [V.str _, V.int ((((Str.ofString (toString ((n : Nat) : Int))).length : Nat) : Int) + (p - 17) + (17 - ((i + 1 : Nat) : Int)))]) = _
        rw [el, show (((Sh27.natText n).length : Nat) : Int) + (p - 17) + (17 - ((i + 1 : Nat) : Int)) = ((Sh27.natText n).length : Int) + (p - ((i + 1 : Nat) : Int)) by (clear hl hz l18 el hlog n2 n1 n0 hn hi0 z' z hi hO bO bA t2 t1 h17 p2 p1 hw he e_LEAST_NORMAL_WHOLE e_LEAST_POWER e_MOST_DIGITS h1 h0; omega)]
end
end S10

set_option Elab.async false
set_option maxRecDepth 100000
set_option linter.all false
namespace S10
open PySem L2 TL Cm
section
variable {P : Program} {w : World} {K : PySem.W.Frag} {mg : Str → Option Value} {base : Heap} {c : Cs}
theorem ok_written (t : T K mg c) : GF P w K mg base CX0 1 "written" ["digits", "places"] spWritten := by
  refine t.f_written.ok sc_written (fun vs H Q E h => ?_) (fun f cdv A outer s H vs Q E hr h => ?_)
  · refine bg fun G' g' => ?_
    obtain ⟨D, ds, p, rfl, _⟩ := h
    refine g' ?_
    clear g' G'
    rfl
  · refine bg fun G' g' => ?_
    obtain ⟨D, ds, p, rfl, hD, hl0, hl1, p1, p2, k⟩ := h
    refine g' ?_
    clear g' G'
    refine ⟨_, (pss_cons (ps_if (pt_cut (pt_chain op_le op_le (pe_callB call_len_str (by rfl) t.b_len PySem.boot_len (pa_cons (pv 0) pa_nil)) (pv 1) pe_int)) (pss_one (ps_ret (pe_op op_add_str (pv 0) (pe_op op_rep_str pe_str (pe_op op_sub (pv 1) (pe_callB call_len_str (by rfl) t.b_len PySem.boot_len (pa_cons (pv 0) pa_nil))))))) pss_nil)
      (pss_cons (ps_if (pt_cut (pt_chain op_lt op_le (pe_un un_neg pe_int) (pv 1) pe_int)) (pss_one (ps_ret (pe_op op_add_str (pe_op op_add_str pe_str (pe_op op_rep_str pe_str (pe_un un_neg (pv 1)))) (pv 0)))) pss_nil)
      (pss_cons (ps_if (pt_cut (pt_chain op_lt op_lt pe_int (pv 1) (pe_callB call_len_str (by rfl) t.b_len PySem.boot_len (pa_cons (pv 0) pa_nil)))) (pss_one (ps_ret (pe_op op_add_str (pe_op op_add_str (pe_slice sl_str (pv 0) po_none (po_some (pv 1))) pe_str) (pe_slice sl_str (pv 0) (po_some (pv 1)) po_none)))) pss_nil)
      (pss_cons (ps_set (i := 2) sc_written.nd rfl (by first | exact Or.inl rfl | exact Or.inr rfl) (pe_op op_sub (pv 1) pe_int))
      (pss_cons (ps_if (pt_cmpR op_eq (pe_callB call_len_str (by rfl) t.b_len PySem.boot_len (pa_cons (pv 0) pa_nil)) pe_int (nomark _)) (pss_one (ps_ret (pe_joined (pj_cons (pe_fmt (pv 0)) (pj_cons pe_str (pj_cons (pe_fmt (pv 2)) pj_nil)))))) pss_nil)
      (pss_cons (ps_set (i := 3) sc_written.nd rfl (by first | exact Or.inl rfl | exact Or.inr rfl) (pe_ix ix_str (pv 0) pe_int (fun _ _ => rfl)))
      (pss_cons (ps_set (i := 4) sc_written.nd rfl (by first | exact Or.inl rfl | exact Or.inr rfl) (pe_slice sl_str (pv 0) (po_some pe_int) po_none))
      (pss_one (ps_ret (pe_joined (pj_cons (pe_fmt (pv 3)) (pj_cons pe_str (pj_cons (pe_fmt (pv 4)) (pj_cons pe_str (pj_cons (pe_fmt (pv 2)) pj_nil))))))))))))))), ?_⟩
    have elen : D.length = ds.length := by rw [len_tl, hD]
    have small : ∀ n, n ≤ 30000 → n ≤ sizeLine := fun n hn => Nat.le_trans hn (by decide)
    have hz : D.length ≤ sizeLine := small _ (by omega)
    have s0 : Str.ofString "0" = ⟨#[48]⟩ := by decide +kernel
    have lrep : ∀ n : Int, n ≤ 10000 → (⟨(List.replicate n.toNat 48).toArray⟩ : Str).length ≤ 10000 := fun n hn => by
      rw [len_tl, tl_rep, List.length_replicate]
      (clear s0 hz elen p2 p1 hl1 hl0 hD; omega)
    refine ⟨fun b H' => H' = H ∧ b = decide ((ds.length : Int) ≤ p ∧ p ≤ 17), ?_, ?_⟩
    · refine ⟨_, rfl, _, rfl, hz, _, rfl, _, _, rfl, rfl, _, rfl, ite2 (fun z => ?_) (fun z => ?_)⟩
      · have z' : (ds.length : Int) ≤ p := by
          have : ((D.length : Nat) : Int) ≤ p := by simpa using z
          omega
        refine ⟨_, _, rfl, rfl, _, rfl, rfl, ?_⟩
        rw [Bool.eq_iff_iff]
        simp only [decide_eq_true_eq]
        exact ⟨fun y => ⟨z', y⟩, fun y => y.2⟩
      · have z' : ¬ (ds.length : Int) ≤ p := by
          have : ¬ ((D.length : Nat) : Int) ≤ p := by simpa using z
          omega
        exact ⟨_, rfl, rfl, (decide_eq_false (fun y => z' y.1)).symm⟩
    · rintro b H1 ⟨rfl, rfl⟩
      refine ite2 (fun z => ?_) (fun z => ?_)
      · have z' := of_decide_eq_true z
        refine ⟨_, rfl, _, rfl, _, rfl, _, rfl, hz, _, _, rfl, rfl, 48, _, congrArg V.str s0, rfl, ?_, ?_, _, _, rfl, rfl, ?_, k _ ?_⟩
        · rw [elen]; (clear z s0 hz p2 p1 hl1 hl0 hD; omega)
        · rw [elen]; omega
        · have := lrep (p - ((D.length : Nat) : Int)) (by omega)
          exact small _ (by omega)
        · rw [tl_append, tl_rep, hD, elen]
          unfold DM.writ
          rw [if_pos z']
      · have z' : ¬ ((ds.length : Int) ≤ p ∧ p ≤ 17) := by simpa using z
        refine ⟨fun b H' => H' = H1 ∧ b = decide (-6 < p ∧ p ≤ 0), ?_, ?_⟩
        · refine ⟨_, rfl, _, rfl, _, _, rfl, rfl, _, rfl, ite2 (fun y => ?_) (fun y => ?_)⟩
          · have y' : (-6 : Int) < p := by simpa using y
            refine ⟨_, _, rfl, rfl, _, rfl, rfl, ?_⟩
            rw [Bool.eq_iff_iff]
            simp only [decide_eq_true_eq]
            exact ⟨fun x => ⟨y', x⟩, fun x => x.2⟩
          · have y' : ¬ (-6 : Int) < p := by simpa using y
            exact ⟨_, rfl, rfl, (decide_eq_false (fun x => y' x.1)).symm⟩
        · rintro b H2 ⟨rfl, rfl⟩
          refine ite2 (fun y => ?_) (fun y => ?_)
          · have y' := of_decide_eq_true y
            have e02 : tl (Str.ofString "0.") = [48, 46] := by decide +kernel
            have l02 : (Str.ofString "0.").length = 2 := by rw [len_tl, e02]; rfl
            have lr := lrep (-p) (by (clear l02 e02 y z' z s0 hz elen hl1 hl0 hD; omega))
            refine ⟨_, rfl, _, rfl, 48, _, congrArg V.str s0, rfl, by (clear lr l02 e02 y z' z s0 hz elen hl1 hl0 hD; omega), by omega, _, _, rfl, rfl, small _ (by rw [l02]; (clear l02 e02 y' y z' z s0 hz elen p2 p1 hl1 hl0 hD; omega)), _, rfl, _, _, rfl, rfl, ?_, k _ ?_⟩
            · rw [Str.length_append, l02]
              exact small _ (by (clear l02 e02 y' y z' z s0 hz p2 p1 hD; omega))
            · rw [tl_append, tl_append, e02, tl_rep, hD]
              unfold DM.writ
              rw [if_neg z', if_pos y', List.append_assoc]
          · have y' : ¬ (-6 < p ∧ p ≤ 0) := by simpa using y
            refine ⟨fun b H' => H' = H2 ∧ b = decide (0 < p ∧ p < (ds.length : Int)), ?_, ?_⟩
            · refine ⟨_, rfl, _, _, rfl, rfl, _, rfl, ite2 (fun x => ?_) (fun x => ?_)⟩
              · have x' : (0 : Int) < p := by simpa using x
                refine ⟨_, rfl, _, rfl, hz, _, _, rfl, rfl, _, rfl, rfl, ?_⟩
                rw [Bool.eq_iff_iff, elen]
                simp only [decide_eq_true_eq]
                exact ⟨fun w => ⟨x', w⟩, fun w => w.2⟩
              · have x' : ¬ (0 : Int) < p := by simpa using x
                exact ⟨_, rfl, rfl, (decide_eq_false (fun w => x' w.1)).symm⟩
            · rintro b H3 ⟨rfl, rfl⟩
              have edot : tl (Str.ofString ".") = [46] := by decide +kernel
              have ldot : (Str.ofString ".").length = 1 := by rw [len_tl, edot]; rfl
              have ee : tl (Str.ofString "e") = [101] := by decide +kernel
              have le : (Str.ofString "e").length = 1 := by rw [len_tl, ee]; rfl
              refine ite2 (fun x => ?_) (fun x => ?_)
              · have x' := of_decide_eq_true x
                obtain ⟨n, rfl⟩ : ∃ n : Nat, p = (n : Int) := ⟨p.toNat, by (clear x le ee ldot edot y' y z' z s0 hz elen hl1 hl0 hD; omega)⟩
                have c1 := cutS_length D none (some ((n : Nat) : Int))
                have c2 := cutS_length D (some ((n : Nat) : Int)) none
                refine ⟨_, rfl, _, rfl, _, rfl, _, rfl, hz, _, _, rfl, rfl, small _ (by rw [ldot]; (clear c2 x' x y' y z' z p2 p1 le ee ldot edot s0 hz hD; omega)), _, rfl, _, rfl, _, rfl, _, rfl, hz, _, _, rfl, rfl, ?_, k _ ?_⟩
                · rw [Str.length_append, ldot]
                  exact small _ (by (clear x' x y' y z' z p2 p1 le ee ldot edot s0 hz hD; omega))
                · rw [tl_append, tl_append, tl_cut_to, tl_cut_from, edot, hD]
                  unfold DM.writ
                  rw [if_neg z', if_neg y', if_pos x', List.append_assoc]
                  rfl
              · have x' : ¬ (0 < p ∧ p < (ds.length : Int)) := by simpa using x
                have hlog : (p - 1).natAbs.log2 < 1920 := by
                  have : Bd 14 (p - 1) := by
                    show (p - 1).natAbs < 2 ^ 14
                    have : (2 : Nat) ^ 14 = 16384 := by decide
                    (clear this x' x le ee ldot edot y' y z' z s0 hz elen hl1 hl0 hD; omega)
                  exact Nat.lt_of_lt_of_le (this.log (by decide)) (by decide)
                have esg : tl (Str.ofString (toString (p - 1))) = Sh27.signed (p - 1) := tl_signed (p - 1)
                have lsg : (Str.ofString (toString (p - 1))).length ≤ 5 := by
                  rw [len_tl, esg]
                  exact DM.signed_len (by omega) (by omega)
                have eem : tl Str.empty = [] := rfl
                have lem : Str.empty.length = 0 := rfl
                refine ⟨_, rfl, _, _, rfl, rfl, _, rfl, _, rfl, hz, rfl, _, rfl, ite2 (fun w1 => ?_) (fun w1 => ?_)⟩
                · have w1' : ds.length = 1 := by
                    have : ((D.length : Nat) : Int) = 1 := by simpa using w1
                    (clear w1 lem eem lsg esg hlog x' x le ee ldot edot y' y z' z s0 hz p2 p1 hl1 hl0 hD; omega)
                  refine ⟨_, rfl, .inl ⟨D, rfl, hz, D, rfl, small _ (by rw [lem]; (clear w1 lem eem lsg esg hlog x' x le ee ldot edot y' y z' z s0 hz p2 p1 hl1 hl0 hD; omega)), _, rfl, ?_, _, rfl, .inr ⟨_, rfl, hlog, _, rfl, ?_, ?_, k _ ?_⟩⟩⟩
                  · rw [Str.length_append, lem, le]
                    exact small _ (by (clear w1 lem eem lsg esg hlog x' x le ee ldot edot y' y z' z s0 hz p2 p1 hl1 hl0 hD; omega))
                  · rw [Str.length_append, Str.length_append, lem, le]
                    exact small _ (by (clear w1 lem eem esg hlog x' x le ee ldot edot y' y z' z s0 hz p2 p1 hl1 hl0 hD; omega))
                  · rw [Str.length_append, Str.length_append, Str.length_append, lem, le]
                    exact small _ (by omega)
                  · rw [tl_append, tl_append, tl_append, eem, ee, hD, esg]
                    unfold DM.writ
                    rw [if_neg z', if_neg y', if_neg x', if_pos w1']
                    simp
                · have w1' : ¬ ds.length = 1 := by
                    have : ¬ ((D.length : Nat) : Int) = 1 := by simpa using w1
                    (clear w1 lem eem lsg esg hlog x' x le ee ldot edot y' y z' z s0 hz p2 p1 hl1 hl0 hD; omega)
                  obtain ⟨d0, dr, rfl⟩ : ∃ d0 dr, ds = d0 :: dr := by
                    cases ds with
                    | nil => simp at hl0
                    | cons d0 dr => exact ⟨d0, dr, rfl⟩
                  have hat : atI D.cps.toList 0 = some d0 := by
                    have : D.cps.toList = d0 :: dr := hD
                    rw [this]
                    exact atI_nat (j := 0) rfl
                  have eo : tl (cutS D (some 1) none) = dr := by
                    have := tl_cut_from D 1
                    rw [hD] at this
                    exact this
                  have lo := cutS_length D (some 1) none
                  have l1 : (⟨#[d0]⟩ : Str).length = 1 := rfl
                  have t1 : tl ⟨#[d0]⟩ = [d0] := rfl
                  refine ⟨_, rfl, _, _, _, rfl, rfl, hz, hat, _, rfl, _, rfl, _, rfl, hz, ?_⟩
                  refine ⟨_, rfl, .inl ⟨⟨#[d0]⟩, rfl, by rw [l1]; decide, ⟨#[d0]⟩, rfl, ?_, _, rfl, ?_, _, rfl, .inl ⟨_, rfl, Nat.le_trans lo hz, _, rfl, ?_, _, rfl, ?_, _, rfl, .inr ⟨_, rfl, hlog, _, rfl, ?_, ?_, k _ ?_⟩⟩⟩⟩
                  · rw [lem, l1]
                    exact small _ (by omega)
                  · rw [Str.length_append, lem, l1, ldot]
                    exact small _ (by omega)
                  · rw [Str.length_append, Str.length_append, lem, l1, ldot]
                    exact small _ (by (clear t1 l1 eo hat w1' x' x z' z hD w1 lem eem lsg esg hlog le ee ldot edot y' y s0 hz p2 p1; omega))
                  · rw [Str.length_append, Str.length_append, Str.length_append, lem, l1, ldot, le]
                    exact small _ (by (clear t1 l1 eo hat w1' x' x z' z hD w1 lem eem lsg esg hlog le ee ldot edot y' y s0 hz p2 p1; omega))
                  · rw [Str.length_append, Str.length_append, Str.length_append, Str.length_append, lem, l1, ldot, le]
                    exact small _ (by (clear t1 l1 eo hat w1' x' x z' z hD w1 lem eem esg hlog le ee ldot edot y' y s0 hz p2 p1; omega))
                  · rw [Str.length_append, Str.length_append, Str.length_append, Str.length_append, Str.length_append, lem, l1, ldot, le]
                    exact small _ (by omega)
                  · rw [tl_append, tl_append, tl_append, tl_append, tl_append, eem, t1, edot, eo, ee, esg]
                    unfold DM.writ
                    rw [if_neg z', if_neg y', if_neg x', if_neg w1']
                    simp
theorem ok_tell_decimal (t : T K mg c) : GF P w K mg base CX0 4 "tell_decimal" ["bits"] spTellD := by
  refine t.f_tell_decimal.ok sc_tell_decimal (fun vs H Q E h => ?_) (fun f cdv A outer s H vs Q E hr h => ?_)
  · refine bg fun G' g' => ?_
    obtain ⟨b, rfl, _⟩ := h
    refine g' ?_
    clear g' G'
    rfl
  · refine bg fun G' g' => ?_
    obtain ⟨b, rfl, hb, hf, k⟩ := h
    refine g' ?_
    clear g' G'
    refine bg fun G' g' => ?_
    obtain ⟨a_MINUS, e_MINUS, m_MINUS⟩ := t.u_MINUS
    refine g' ?_
    clear g' G'
    refine ⟨_, (pss_cons (ps_set (i := 1) sc_tell_decimal.nd rfl (by first | exact Or.inl rfl | exact Or.inr rfl) (pe_callG (ok_whole_of t) hr pass0 (pa_cons (pv 0) pa_nil)))
      (pss_cons (ps_if (pt_cmpR op_eq (pv 1) pe_int (nomark _)) (pss_one (ps_ret (pe_callG (ok_bytes_of t) hr pass0 (pa_cons pe_str pa_nil)))) pss_nil)
      (pss_cons (ps_set (i := 2) sc_tell_decimal.nd rfl (by first | exact Or.inl rfl | exact Or.inr rfl) (pe_callG (ok_shortest t) hr pass0 (pa_cons (pv 1) (pa_cons (pe_callG (ok_power_of t) hr pass0 (pa_cons (pv 0) pa_nil)) pa_nil))))
      (pss_cons (ps_set (i := 3) sc_tell_decimal.nd rfl (by first | exact Or.inl rfl | exact Or.inr rfl) (pe_cut (pe_ifExp (pt_val (pe_callG (ok_is_below_nought t) hr pass0 (pa_cons (pv 0) pa_nil))) (pe_callTy call_list_of (by rfl) t.b_list (show bootBuiltins "list" = some (.type "list") by decide +kernel) (pa_cons (pe_glob (v := .ref a_MINUS) (by rfl) e_MINUS rfl) pa_nil)) (pe_lst pa_nil))))
      (pss_one (ps_ret (pe_op op_cat (pv 3) (pe_callG (ok_bytes_of t) hr pass0 (pa_cons (pe_callG (ok_written t) hr pass0 (pa_cons (pe_ix ix_tup (pv 2) pe_int (fun _ _ => rfl)) (pa_cons (pe_ix ix_tup (pv 2) pe_int (fun _ _ => rfl)) pa_nil))) pa_nil))))))))), ?_⟩
    refine ⟨_, rfl, b, rfl, _, rfl, rfl, _, rfl, ite2 (fun z => ?_) (fun z => ?_)⟩
    · have z' : DM.whR (b % Sh27.SIGN) = 0 := by
        have : ((DM.whR (b % Sh27.SIGN) : Nat) : Int) = 0 := by simpa using z
        (clear z e_MINUS hf hb; omega)
      have h0 : b % Sh27.SIGN = 0 := by
        rcases Nat.eq_zero_or_pos (b % Sh27.SIGN) with y | y
        · exact y
        · have := DM.wh_pos y
          (clear y z e_MINUS hf hb; omega)
      have e0 : tl (Str.ofString "0") = [48] := by decide +kernel
      refine ⟨_, rfl, by rw [e0]; decide, ?_⟩
      rw [e0, ← DM.dec_zero h0]
      exact k
    · have h0 : 0 < b % Sh27.SIGN := by
        rcases Nat.eq_zero_or_pos (b % Sh27.SIGN) with y | y
        · rw [y] at z
          exact absurd rfl z
        · exact y
      refine ⟨_, rfl, _, rfl, b, rfl, b % Sh27.SIGN, rfl, h0, hf, fun i n hi hn hj D l H1 hD hl s1 => ?_⟩
      refine bg fun G' g' => ?_
      obtain ⟨_, p1, p2⟩ := DM.places_pt h0 hf
      refine g' ?_
      clear g' G'
      obtain ⟨n0, n1⟩ := DM.pick_in h0 hf hi hn
      have n2 : n < 10 ^ 18 := by
        have a1 : 10 ^ (i + 1) ≤ 10 ^ 17 := Nat.pow_le_pow_right (by decide) hi
        have a2 : (10 : Nat) ^ 17 < 10 ^ 18 := by decide
        (clear a2 n0 p2 p1 hl hD hn hi h0 z e_MINUS hf hb; omega)
      have l18 := DM.natLen (k := 18) (by decide) n2
      obtain ⟨r1, r2⟩ := DM.rs_len n0
      have eDec := DM.dec_eq h0 hf hi hn hj
      refine ⟨fun v H' => ∃ (ls : List Nat) (l' : Addr), v = .ref l' ∧ H1 l' = none ∧ H' l' = some (.lst (nI ls)) ∧ Same H1 H' ∧ ls = if Sh27.SIGN ≤ b then [45] else [], ?_, ?_⟩
      · refine ⟨_, rfl, b, rfl, _, rfl, ite2 (fun y => ?_) (fun y => ?_)⟩
        · have y' : Sh27.SIGN < b := of_decide_eq_true y
          refine ⟨a_MINUS, _, rfl, .inr (m_MINUS.sq _), fun l' hl' => ⟨[45], l', rfl, hl', upd_same, same_upd hl', ?_⟩⟩
          rw [if_pos (Nat.le_of_lt y')]
        · have y' : ¬ Sh27.SIGN < b := fun w => y (decide_eq_true w)
          refine ⟨(by show 0 ≤ sizeLine; decide), fun l' hl' => ⟨[], l', rfl, hl', upd_same, same_upd hl', ?_⟩⟩
          have : ¬ Sh27.SIGN ≤ b := fun w => by
            have e : b = Sh27.SIGN := Nat.le_antisymm (Nat.le_of_not_lt y') w
            rw [e, Nat.mod_self] at h0
            exact absurd h0 (Nat.lt_irrefl 0)
          rw [if_neg this]
      · intro v H2 h'
        refine bg fun G' g' => ?_
        obtain ⟨ls, l', rfl, hl0', hl2', s2, els⟩ := h'
        refine g' ?_
        clear g' G'
        have hl2 := s2 _ _ hl
        rw [← els] at eDec
        obtain ⟨p, ep⟩ : ∃ p, ((Sh27.natText n).length : Int) + (DM.placesR (b % Sh27.SIGN) - ((i + 1 : Nat) : Int)) = p := ⟨_, rfl⟩
        rw [ep] at hl2 eDec
        have pb1 : -9000 ≤ p := by (clear hl2 eDec els hl2' hl0' l18 n2 n1 n0 hl hD hn h0 z e_MINUS hf hb; omega)
        have pb2 : p ≤ 9000 := by (clear pb1 hl2 eDec els hl2' hl0' r2 r1 n2 n1 n0 hl hD hn h0 z e_MINUS hf hb; omega)
        refine ⟨_, rfl, _, rfl, l, _, _, _, rfl, rfl, SqT.of hl2, atI_nat (j := 0) rfl, _, rfl, l, _, _, _, rfl, rfl, SqT.of hl2, atI_nat (j := 1) rfl, ?_⟩
        refine ⟨D, _, p, rfl, hD, r1, by (clear pb2 pb1 ep hl2 eDec els hl2' hl0' r1 n2 n1 n0 p2 p1 hl hD hn hi h0 z e_MINUS hf hb; omega), pb1, pb2, fun zz hzz => ?_⟩
        have wl := DM.writ_len (d := DM.rs (Sh27.natText n)) (p := p) (by (clear hzz pb2 pb1 ep hl2 eDec els hl2' hl0' r1 n2 n1 n0 p2 p1 hl hD hn hi h0 z e_MINUS hf hb; omega)) pb1 pb2
        refine ⟨zz, rfl, by rw [hzz]; (clear hzz pb2 pb1 ep hl2 eDec els hl2' hl0' r2 r1 l18 n2 n1 n0 p2 p1 hl hD hn hi h0 z e_MINUS hf hb; omega), fun l3 H3 hl30 hl3 s3 => ?_⟩
        rw [hzz] at hl3
        have lsl : ls.length ≤ 1 := by
          rw [els]
          split <;> simp
        refine ⟨l', l3, _, _, rfl, rfl, s3 _ _ hl2', hl3, ?_, fun l4 hl4 => ?_⟩
        · rw [nI_len, nI_len]
          exact Nat.le_trans (show _ ≤ 100 by (clear hl3 hl30 hzz pb2 pb1 ep hl2 eDec els hl2' hl0' r2 r1 l18 n2 n1 n0 p2 p1 hl hD hn hi h0 z e_MINUS hf hb; omega)) (by decide)
        · have sall := (s1.trans s2).trans s3
          refine k l4 _ (sall.free hl4) ?_ (sall.trans (same_upd hl4))
          rw [upd_same, ← nI_app, ← eDec]
end
end S10

set_option Elab.async false
set_option maxRecDepth 100000
set_option linter.all false
namespace S10
open PySem L2 TL Cm
section
variable {P : Program} {w : World} {K : PySem.W.Frag} {mg : Str → Option Value} {base : Heap} {c : Cs}
open Tb in
theorem ok_are_names (t : T K mg c) : GF P w K mg base CX0 2 "are_names" ["names"] (Tb.spNames K) := by
  refine t.f_are_names.ok sc_are_names (fun vs H Q E h => ?_) (fun f cdv A outer s H vs Q E hr h => ?_)
  · refine bg fun G' g' => ?_
    obtain ⟨a, as, xs, rfl, _⟩ := h
    refine g' ?_
    clear g' G'
    rfl
  · refine bg fun G' g' => ?_
    obtain ⟨a, as, xs, rfl, hS, R, k⟩ := h
    refine g' ?_
    clear g' G'
    obtain ⟨t_MOST_NAME_BYTES, e_MOST_NAME_BYTES⟩ := t.i_MOST_NAME_BYTES
    obtain ⟨t_MOST_NAMES, e_MOST_NAMES⟩ := t.i_MOST_NAMES
    refine ⟨_, (pss_cons (ps_if (pt_not (pt_cut (pt_chain op_le op_le pe_int (pe_callB call_len_seq (by rfl) t.b_len PySem.boot_len (pa_cons (pv 0) pa_nil)) (pe_glob (v := .int 16) (by rfl) e_MOST_NAMES ⟨t_MOST_NAMES, rfl⟩)))) (pss_one (ps_ret pe_bl)) pss_nil)
      (pss_cons (ps_for PassesOwn.never rfl (pi_list (pv 0)) (pg_name (i := 1) sc_are_names.nd rfl (by first | exact Or.inl rfl | exact Or.inr rfl)) (pss_one (ps_if (pt_cut (pw_or (pt_not (pt_chain op_le op_le pe_int (pe_callB call_len_seq (by rfl) t.b_len PySem.boot_len (pa_cons (pv 1) pa_nil)) (pe_glob (v := .int 32) (by rfl) e_MOST_NAME_BYTES ⟨t_MOST_NAME_BYTES, rfl⟩))) (pw_or1 (pt_not (pt_val (pe_callG (ok_all_within t) hr pass0 (pa_cons (pv 1) (pa_cons pe_int (pa_cons pe_int pa_nil)))))))).pt) (pss_one (ps_ret pe_bl)) pss_nil)))
      (pss_one (ps_ret pe_bl)))), ?_⟩
    have hlen : ((as.map V.ref).length : Int) = (xs.length : Int) := by rw [List.length_map, R.len]
    refine ⟨fun b H' => H' = H ∧ b = Sh27.among xs.length 1 16, ?_, ?_⟩
    · refine ⟨_, rfl, a, _, rfl, .inl hS, _, _, rfl, rfl, _, rfl, ite2 (fun z => ?_) (fun z => ?_)⟩
      · have z' : (1 : Int) ≤ ((as.map V.ref).length : Int) := by simpa using z
        refine ⟨_, _, rfl, rfl, _, rfl, rfl, ?_⟩
        unfold Sh27.among
        rw [hlen] at *
        rw [decide_eq_true (show 1 ≤ xs.length by omega), Bool.true_and, Bool.eq_iff_iff, decide_eq_true_eq, decide_eq_true_eq]
        omega
      · have z' : ¬ (1 : Int) ≤ ((as.map V.ref).length : Int) := by simpa using z
        refine ⟨_, rfl, rfl, ?_⟩
        unfold Sh27.among
        rw [hlen] at z'
        rw [decide_eq_false (show ¬ 1 ≤ xs.length by omega), Bool.false_and]
    · rintro b H1 ⟨rfl, rfl⟩
      refine ite2 (fun z => ?_) (fun z => ?_)
      · have z' : Sh27.among xs.length 1 16 = false := by simpa using z
        unfold namesB at k
        rw [z'] at k
        exact k
      · have z' : Sh27.among xs.length 1 16 = true := by simpa using z
        unfold namesB at k
        rw [z', Bool.true_and] at k
        refine ⟨_, rfl, a, rfl, ⟨_, hS⟩, for_list (K := K) (a := a) (xs := as.map V.ref) (fun i σ H' => ∃ v : Option V, H' = H1 ∧ σ = [some (.ref a), v] ∧ (xs.take i).all Sh27.isName = true)
          ⟨none, rfl, rfl, rfl⟩ (fun i σ H' _ ⟨_, e, _⟩ => by rw [e]; exact hS) ?_ ?_⟩
        · intro i y σ H' hi' h'
          refine bg fun G' g' => ?_
          obtain ⟨v, rfl, rfl, hall⟩ := h'
          refine g' ?_
          clear g' G'
          refine bg fun G' g' => ?_
          obtain ⟨d, rfl, hd⟩ := refs_get hi'
          refine g' ?_
          clear g' G'
          refine bg fun G' g' => ?_
          obtain ⟨x, hx, hSx⟩ := R.get hd
          refine g' ?_
          clear g' G'
          have hxn : ∀ n ∈ x.map (fun (n : Nat) => (n : Int)), 0 ≤ n := fun n hn => by
            refine bg fun G' g' => ?_
            obtain ⟨m, _, rfl⟩ := List.mem_map.mp hn
            refine g' ?_
            clear g' G'
            omega
          have hSx' : SqL K H' d ((x.map fun (n : Nat) => (n : Int)).map V.int) := by rw [List.map_map]; exact hSx.sq
          have eN : Sh27.isName x = (Sh27.among x.length 1 32 && (x.map fun (n : Nat) => (n : Int)).all (inB 33 126)) := by
            unfold Sh27.isName
            congr 1
            rw [List.all_map]
            congr 1
            funext m
            unfold Sh27.among inB
            simp only [Function.comp]
            rw [Bool.eq_iff_iff]
            simp only [Bool.and_eq_true, decide_eq_true_eq]
            (clear hx hi' hd hall z' z hlen e_MOST_NAMES e_MOST_NAME_BYTES; omega)
          refine ⟨fun b H'' => H'' = H' ∧ b = !Sh27.isName x, ?_, ?_⟩
          · refine ⟨_, rfl, d, _, rfl, .inl hSx.sq, _, _, rfl, rfl, _, rfl, ite2 (fun y1 => ?_) (fun y1 => ?_)⟩
            · have y1' : 1 ≤ x.length := by
                have : (1 : Int) ≤ ((nI x).length : Int) := by simpa using y1
                rw [nI_len] at this
                (clear y1 eN hx hi' hd hall z' z hlen e_MOST_NAMES e_MOST_NAME_BYTES; omega)
              refine ⟨_, _, rfl, rfl, _, rfl, ite2 (fun y2 => ?_) (fun y2 => ?_)⟩
              · have y2' : ¬ x.length ≤ 32 := by
                  have : ¬ ((nI x).length : Int) ≤ 32 := by simpa using y2
                  rw [nI_len] at this
                  omega
                refine ⟨rfl, ?_⟩
                rw [eN]
                unfold Sh27.among
                rw [decide_eq_false y2', Bool.and_false, Bool.false_and]
                rfl
              · have y2' : x.length ≤ 32 := by
                  have : ((nI x).length : Int) ≤ 32 := by simpa using y2
                  rw [nI_len] at this
                  (clear y2 y1 eN hx hi' hd hall z' z hlen e_MOST_NAMES e_MOST_NAME_BYTES; omega)
                refine ⟨_, rfl, d, _, 33, 126, rfl, hSx', _, rfl, rfl, ?_⟩
                rw [eN]
                unfold Sh27.among
                rw [decide_eq_true y1', decide_eq_true y2']
                rfl
            · have y1' : ¬ 1 ≤ x.length := by
                have : ¬ (1 : Int) ≤ ((nI x).length : Int) := by simpa using y1
                rw [nI_len] at this
                (clear y1 eN hx hi' hd hall z' z hlen e_MOST_NAMES e_MOST_NAME_BYTES; omega)
              refine ⟨_, rfl, iteT ⟨rfl, ?_⟩⟩
              rw [eN]
              unfold Sh27.among
              rw [decide_eq_false y1']
              rfl
          · rintro b H'' ⟨rfl, rfl⟩
            refine ite2 (fun y1 => ?_) (fun y1 => ?_)
            · have y1' : Sh27.isName x = false := by simpa using y1
              rw [all_take_false hx y1'] at k
              exact k
            · have y1' : Sh27.isName x = true := by simpa using y1
              exact ⟨some (.ref d), rfl, rfl, by rw [all_take_succ hx, hall, y1']; rfl⟩
        · intro σ H' h'
          refine bg fun G' g' => ?_
          obtain ⟨v, rfl, rfl, hall⟩ := h'
          refine g' ?_
          clear g' G'
          rw [List.length_map, R.len, List.take_length] at hall
          rw [hall] at k
          exact k
open Tb in
theorem ok_at_the_right (t : T K mg c) : GF P w K mg base CX0 1 "at_the_right" ["words"] (Tb.spRight K) := by
  refine t.f_at_the_right.ok sc_at_the_right (fun vs H Q E h => ?_) (fun f cdv A outer s H vs Q E hr h => ?_)
  · refine bg fun G' g' => ?_
    obtain ⟨a, as, xs, rfl, _⟩ := h
    refine g' ?_
    clear g' G'
    rfl
  · refine bg fun G' g' => ?_
    obtain ⟨a, as, xs, rfl, hS, R, h1, h2, h3, k⟩ := h
    refine g' ?_
    clear g' G'
    obtain ⟨t_BLANK, e_BLANK⟩ := t.i_BLANK
    refine ⟨_, (pss_cons (ps_set (i := 1) sc_at_the_right.nd rfl (by first | exact Or.inl rfl | exact Or.inr rfl) (pe_callB (r := rMaxL K) (call_maxL rfl) (by rfl) t.b_max (show bootBuiltins "max" = some (.builtin "max") by decide +kernel) (pa_cons (pe_lc rfl sc_at_the_right.nd (pi_list (pv 0)) (blkOk_by (own := [("word", 2)]) (show blkC ["words", "room", "word"] (defScope s_at_the_right) _ _ = true by decide +kernel)) (fun _ _ _ _ _ => pg_name (i := 2) sc_at_the_right.nd rfl (by first | exact Or.inl rfl | exact Or.inr rfl)) (fun _ _ _ _ _ => pts_nil) (fun _ _ _ _ _ => (pe_callB (r := rLenS K) call_lenS (by rfl) t.b_len PySem.boot_len (pa_cons (pv 2) pa_nil)))) pa_nil)))
      (pss_one (ps_ret (pe_lc rfl sc_at_the_right.nd (pi_list (pv 0)) (blkOk_by (own := [("word", 2)]) (show blkC ["words", "room", "word"] (defScope s_at_the_right) _ _ = true by decide +kernel)) (fun _ _ _ _ _ => pg_name (i := 2) sc_at_the_right.nd rfl (by first | exact Or.inl rfl | exact Or.inr rfl)) (fun _ _ _ _ _ => pts_nil) (fun _ _ _ _ _ => (pe_op (r := rCatR K) op_catR (pe_op op_rep (pe_lst (pa_cons (pe_glob (v := .int 32) (by rfl) e_BLANK ⟨t_BLANK, rfl⟩) pa_nil)) (pe_op op_sub (pv 1) (pe_callB (r := rLenS K) call_lenS (by rfl) t.b_len PySem.boot_len (pa_cons (pv 2) pa_nil)))) (pv 2))))))), ?_⟩
    have hal : as.length = xs.length := R.len
    refine ⟨_, rfl, a, rfl, ⟨_, hS⟩, fun D hD => lc_list (K := K) (a := a) (xs := as.map V.ref) (fun i H' => H' = upd H D (.lst (((xs.take i).map fun x => (x.length : Int)).map V.int))) (by rw [List.take_zero]; rfl) (fun i H' _ e => by rw [e]; exact (same_upd hD).seq hS) ?_ ?_⟩
    · rintro i y H' hi rfl
      refine bg fun G' g' => ?_
      obtain ⟨d, rfl, hd⟩ := refs_get hi
      refine g' ?_
      clear g' G'
      refine bg fun G' g' => ?_
      obtain ⟨x, hx, hSx⟩ := R.get hd
      refine g' ?_
      clear g' G'
      refine ⟨rfl, yesT ?_⟩
      refine ⟨_, rfl, d, _, rfl, .inl (hSx.same (same_upd hD)).sq, _, upd_same, ?_, ?_⟩
      · rw [List.length_map, List.length_map, List.length_take]
        exact Nat.lt_of_le_of_lt (show _ ≤ 300 by omega) (by decide)
      · rw [upd_upd, take_map_succ _ hx, List.map_append, nI_len]
        rfl
    · rintro H1 rfl
      rw [List.length_map, hal, List.take_length]
      refine ⟨D, _, rfl, SqL.of upd_same, by rw [List.length_map]; omega, fun M hM1 hM2 => ?_⟩
      obtain rfl := room_is h1 hM1 hM2
      have hroom : roomOf xs ≤ 100 := room_le h3
      generalize hH1 : upd H D (.lst ((xs.map fun x => (x.length : Int)).map V.int)) = H1
      have s1 : Same H H1 := by rw [← hH1]; exact same_upd hD
      refine ⟨_, rfl, a, rfl, ⟨_, s1.seq hS⟩, fun L hL => lc_list (K := K) (a := a) (xs := as.map V.ref) (fun i H' => ∃ bs : List Addr, H' L = some (.lst (bs.map V.ref)) ∧ LLN H L H' bs ((xs.take i).map (Sh27.right (roomOf xs))) ∧ Same H1 H')
        ⟨[], upd_same, ⟨rfl, fun j b q e1 _ => by simp at e1⟩, same_upd hL⟩ (fun i H' _ ⟨_, _, _, e⟩ => (s1.trans e).seq hS) ?_ ?_⟩
      · intro i y H' hi h'
        refine bg fun G' g' => ?_
        obtain ⟨bs, hL', LL', s'⟩ := h'
        refine g' ?_
        clear g' G'
        refine bg fun G' g' => ?_
        obtain ⟨d, rfl, hd⟩ := refs_get hi
        refine g' ?_
        clear g' G'
        refine bg fun G' g' => ?_
        obtain ⟨x, hx, hSx⟩ := R.get hd
        refine g' ?_
        clear g' G'
        have hxl := h3 x (List.mem_of_getElem? hx)
        have hxr := room_ge (List.mem_of_getElem? hx)
        have hSx' : RdK K H' d (nI x) := hSx.same (s1.trans s')
        have hbl : bs.length = i := by
          have := (List.getElem?_eq_some_iff.mp hx).1
          rw [LL'.len, List.length_map, List.length_take]
          (clear hxr hxl hx hi hd hL' hL hH1 hroom hD e_BLANK h2 h1; omega)
        refine ⟨rfl, yesT ?_⟩
        refine ⟨(by show 1 ≤ sizeLine; decide), fun b1 hb1 => ?_⟩
        have sb1 : Same H' (upd H' b1 (.lst [V.int 32])) := same_upd hb1
        refine ⟨_, rfl, _, rfl, d, _, rfl, .inl (hSx'.same sb1).sq, _, _, rfl, rfl, ?_⟩
        try dsimp only
        rw [nI_len, show ((roomOf xs : Nat) : Int) - ((x.length : Nat) : Int) = ((roomOf xs - x.length : Nat) : Int) by (clear hb1 hbl hxl hx hi hd hL' hL hH1 hroom hD hal e_BLANK h2 h1; omega)]
        refine ⟨b1, _, _, rfl, rfl, upd_same, by (clear hb1 hbl hxr hxl hx hi hd hL' hL hH1 hroom hD hal e_BLANK h2 h1; omega), by (clear hb1 hbl hx hi hd hL' hL hH1 hD hal e_BLANK h2 h1; omega), ?_, fun b2 hb2 => ?_⟩
        · show 1 * ((roomOf xs - x.length : Nat) : Int).toNat ≤ sizeLine
          rw [Nat.one_mul, Int.toNat_natCast]
          exact Nat.le_trans (show _ ≤ 100 by (clear hb1 hbl hx hi hd hL' hL hH1 hD hal e_BLANK h2 h1; omega)) (by decide)
        · have er : (List.replicate ((roomOf xs - x.length : Nat) : Int).toNat [V.int 32]).flatten = nI (List.replicate (roomOf xs - x.length) 32) := by
            rw [Int.toNat_natCast]
            generalize roomOf xs - x.length = m
            induction m with
            | zero => rfl
            | succ m ih =>
              rw [List.replicate_succ, List.flatten_cons, ih]
              rfl
          rw [er]
          have sb2 := same_upd (o := .lst (nI (List.replicate (roomOf xs - x.length) 32))) hb2
          refine ⟨_, rfl, b2, d, _, _, rfl, rfl, .of upd_same, (hSx'.same sb1).same sb2, ?_, fun b3 hb3 => ?_⟩
          · rw [nI_len, nI_len, List.length_replicate]
            exact Nat.le_trans (show _ ≤ 300 by (clear er hb2 hb1 hbl hxl hx hi hd hL' hL hH1 hD hal e_BLANK h2 h1; omega)) (by decide)
          · rw [← nI_app, show List.replicate (roomOf xs - x.length) 32 ++ x = Sh27.right (roomOf xs) x from rfl]
            have s3 : Same H' (upd (upd (upd H' b1 (.lst [V.int 32])) b2 (.lst (nI (List.replicate (roomOf xs - x.length) 32)))) b3 (.lst (nI (Sh27.right (roomOf xs) x)))) := (sb1.trans sb2).trans (same_upd hb3)
            have hb3' : H' b3 = none := (sb1.trans sb2).free hb3
            have hLb : L ≠ b3 := ne_of_none hL' hb3'
            have sH := s1.trans s'
            refine ⟨_, s3 _ _ hL', ?_, bs ++ [b3], by rw [List.map_append]; exact upd_same, ?_, ?_⟩
            · rw [List.length_map, hbl]
              have := (List.getElem?_eq_some_iff.mp hx).1
              exact Nat.lt_of_lt_of_le (show i < 300 by (clear hLb hb3' hb3 er hb2 hb1 hbl hxr hxl hx hi hd hL' hL hH1 hroom hD e_BLANK; omega)) (by decide)
            · rw [take_map_succ _ hx]
              refine LLN.snoc ?_ (sH.free hb3') (fun z => hLb z.symm) (by rw [upd_ne (fun z => hLb z.symm)]; exact upd_same)
              refine LL'.same fun b o eb => ?_
              have hbL : b ≠ L := fun z => by
                subst z
                rw [hide_self] at eb
                cases eb
              rw [upd_ne hbL]
              exact s3 b o (hide_same b o eb)
            · exact same_keep (s'.trans s3) hL
      · intro H2 h'
        refine bg fun G' g' => ?_
        obtain ⟨bs, hL2, LL2, s2⟩ := h'
        refine g' ?_
        clear g' G'
        rw [List.length_map, hal, List.take_length] at LL2
        exact k L H2 bs (s1.free hL) hL2 LL2 (s1.trans s2)
end
end S10

set_option Elab.async false
set_option maxRecDepth 100000
set_option linter.all false
namespace S10
open PySem L2 TL Cm
section
variable {P : Program} {w : World} {K : PySem.W.Frag} {mg : Str → Option Value} {base : Heap} {c : Cs}
open Tb in
theorem ok_tell_row (t : T K mg c) : GF P w K mg base CX0 1 "tell_row" ["columns", "row"] Tb.spRowT := by
  refine t.f_tell_row.ok sc_tell_row (fun vs H Q E h => ?_) (fun f cdv A outer s H vs Q E hr h => ?_)
  · refine bg fun G' g' => ?_
    obtain ⟨a, cs, xss, j, rfl, _⟩ := h
    refine g' ?_
    clear g' G'
    rfl
  · refine bg fun G' g' => ?_
    obtain ⟨a, cs, xss, j, rfl, ha, R, h1, h2, k⟩ := h
    refine g' ?_
    clear g' G'
    refine bg fun G' g' => ?_
    obtain ⟨a_BETWEEN, e_BETWEEN, m_BETWEEN⟩ := t.u_BETWEEN
    refine g' ?_
    clear g' G'
    have hu := hr.units
    refine ⟨_, (pss_cons (ps_set (i := 2) sc_tell_row.nd rfl (by first | exact Or.inl rfl | exact Or.inr rfl) (pe_lst pa_nil))
      (pss_cons (ps_for PassesOwn.never rfl (pi_list (pv 0)) (pg_name (i := 3) sc_tell_row.nd rfl (by first | exact Or.inl rfl | exact Or.inr rfl)) (pss_cons (ps_cut (ps_if (pt_cmpR (op_neD hu) (pv 2) (pe_lst pa_nil) (nomark _)) (pss_one (ps_expr (pe_bm PySem.F.plainAttrs_list PySem.F.slot_list_extend PySem.F.type_list_extend mt_extendT (pv 2) (pa_cons (pe_glob (v := .ref a_BETWEEN) (by rfl) e_BETWEEN rfl) pa_nil)))) pss_nil))
      (pss_one (ps_expr (pe_bm PySem.F.plainAttrs_list PySem.F.slot_list_extend PySem.F.type_list_extend mt_extend (pv 2) (pa_cons (pe_ix ix_list (pv 3) (pv 1) (fun _ _ => rfl)) pa_nil))))))
      (pss_one (ps_ret (pv 2))))), ?_⟩
    obtain ⟨ws, ews⟩ : ∃ ws, (xss.map fun x => x.getD j []) = ws := ⟨_, rfl⟩
    rw [ews] at k
    have hcl : cs.length = xss.length := R.len
    have hwl : ws.length = xss.length := by rw [← ews, List.length_map]
    have hw100 : ∀ x ∈ ws, x.length ≤ 100 := fun x hx => by
      rw [← ews] at hx
      refine bg fun G' g' => ?_
      obtain ⟨y, hy, rfl⟩ := List.mem_map.mp hx
      refine g' ?_
      clear g' G'
      obtain ⟨b1, b2⟩ := h2 y hy
      rw [List.getD_eq_getElem?_getD, List.getElem?_eq_getElem b1]
      exact b2 _ (List.getElem_mem b1)
    have hrow : ∀ i, (rowJ (ws.take i)).length ≤ 1632 := fun i => by
      refine Nat.le_trans (rowJ_len _ 100 fun x hx => hw100 x (List.mem_of_mem_take hx)) ?_
      have : (ws.take i).length ≤ 16 := by rw [List.length_take]; (clear ews hu e_BETWEEN ha; omega)
      exact Nat.le_trans (Nat.mul_le_mul_right _ this) (by decide)
    have hu := hr.units
    refine ⟨(by show 0 ≤ sizeLine; decide), fun l hl => ?_⟩
    have s0 : Same H (upd H l (.lst [])) := same_upd hl
    refine ⟨_, rfl, a, rfl, ⟨_, SqL.of (s0 _ _ ha)⟩, for_list (K := K) (a := a) (xs := cs.map V.ref) (fun i σ H' => ∃ v : Option V, σ = [some (.ref a), some (.int (j : Nat)), some (.ref l), v] ∧ Same H H' ∧ H' l = some (.lst (nI (rowJ (ws.take i)))))
      ⟨none, rfl, s0, by rw [List.take_zero]; exact upd_same⟩ (fun i σ H' _ ⟨_, _, e, _⟩ => SqL.of (e _ _ ha)) ?_ ?_⟩
    · intro i y σ H1 hi h'
      refine bg fun G' g' => ?_
      obtain ⟨v, rfl, s1, hl1⟩ := h'
      refine g' ?_
      clear g' G'
      refine bg fun G' g' => ?_
      obtain ⟨d, rfl, hd⟩ := refs_get hi
      refine g' ?_
      clear g' G'
      have hic : i < cs.length := (List.getElem?_eq_some_iff.mp hd).1
      have hix : i < xss.length := by (clear hi hd hl1 hl hu ews; clear hu e_BETWEEN h1 ha; omega)
      refine bg fun G' g' => ?_
      obtain ⟨es, hde, LLe⟩ := R.at_ i d xss[i] hd (List.getElem?_eq_getElem hix)
      refine g' ?_
      clear g' G'
      obtain ⟨b1, b2⟩ := h2 _ (List.getElem_mem hix)
      have hje : j < es.length := by rw [LLe.len]; exact b1
      have hwe := LLe.at_ j es[j] xss[i][j] (List.getElem?_eq_getElem hje) (List.getElem?_eq_getElem b1)
      have hwi : ws[i]? = some (xss[i][j]) := by
        rw [← ews, List.getElem?_map, List.getElem?_eq_getElem hix]
        show some ((xss[i]).getD j []) = _
        rw [List.getD_eq_getElem?_getD, List.getElem?_eq_getElem b1]
        rfl
      have hwn : (xss[i][j]).length ≤ 100 := b2 _ (List.getElem_mem b1)
      have hr1 := hrow i
      have hdl : d ≠ l := fun z => by
        rw [z, hl] at hde
        cases hde
      have hel : es[j] ≠ l := fun z => by
        rw [z, hl] at hwe
        cases hwe
      refine ⟨fun σ' H' => ∃ acc : List Nat, σ' = [some (.ref a), some (.int (j : Nat)), some (.ref l), some (.ref d)] ∧ Same H H' ∧ H' l = some (.lst (nI acc)) ∧ acc.length ≤ 1634 ∧ acc ++ xss[i][j] = (if rowJ (ws.take i) = [] then xss[i][j] else rowJ (ws.take i) ++ (32 :: 32 :: xss[i][j])), ?_, ?_⟩
      · refine ⟨_, rfl, (by show 0 ≤ sizeLine; decide), fun z hz => ?_⟩
        have sz := same_upd (o := .lst []) hz
        have hl1z := sz _ _ hl1
        refine ⟨_, _, .lst (SqL.of hl1z) (dpAll_n _), .lst (SqL.of upd_same) .nil, shaped_n _, shapedNil, _, rfl, ?_⟩
        rw [eqvNil]
        refine ite2 (fun h0 => ?_) (fun h0 => ?_)
        · have h0' : ¬ rowJ (ws.take i) = [] := by
            intro z'
            rw [z'] at h0
            exact absurd h0 (by decide)
          refine ⟨_, rfl, .inl ⟨rfl, _, SqL.of hl1z⟩, l, a_BETWEEN, _, _, rfl, rfl, hl1z, m_BETWEEN, ?_, rowJ (ws.take i) ++ [32, 32], rfl, same_keep (s1.trans sz) hl, by rw [upd_same, ← nI_app], ?_, ?_⟩
          · rw [nI_len, nI_len]
            exact Nat.le_trans (show _ ≤ 2000 by simp only [List.length_cons, List.length_nil]; (clear h0' h0 hl1z hz hel hdl hwn hwi hwe hje hde hic hi hd hl1 hl hu hwl hcl ews; clear hu e_BETWEEN h1 ha; omega)) (by decide)
          · rw [List.length_append]
            simp only [List.length_cons, List.length_nil]
            (clear h0' h0 hl1z hz hel hdl hwn hwi hwe hje hde hic hi hd hl1 hl hu hwl hcl ews; clear hu e_BETWEEN h1 ha; omega)
          · rw [if_neg h0', List.append_assoc]
            rfl
        · have h0' : rowJ (ws.take i) = [] := by
            cases e : rowJ (ws.take i) with
            | nil => rfl
            | cons x r =>
              rw [e] at h0
              exact absurd rfl h0
          refine ⟨[], rfl, s1.trans sz, by rw [h0'] at hl1z; exact hl1z, by simp, by rw [if_pos h0']; rfl⟩
      · intro σ' H2 h'
        refine bg fun G' g' => ?_
        obtain ⟨acc, rfl, s2, hl2, hacc, eacc⟩ := h'
        refine g' ?_
        clear g' G'
        refine ⟨_, rfl, .inl ⟨rfl, _, SqL.of hl2⟩, _, rfl, _, rfl, d, _, _, V.ref es[j], rfl, rfl, SqL.of (s2 _ _ hde), atI_of (j := j) rfl (by simp [hje]), l, es[j], _, _, rfl, rfl, hl2, s2 _ _ hwe, ?_, some (.ref d), rfl, same_keep s2 hl, ?_⟩
        · rw [nI_len, nI_len]
          exact Nat.le_trans (show _ ≤ 2000 by (clear eacc hl2 hel hdl hr1 hwi hwe hje hde hic hi hd hl1 hl hu hwl hcl ews; clear hu e_BETWEEN h1 ha; omega)) (by decide)
        · rw [upd_same, ← nI_app, eacc, List.take_add_one, hwi]
          show _ = some (HO.lst (nI (rowJ (ws.take i ++ [xss[i][j]]))))
          rw [rowJ_snoc]
    · intro σ H1 h'
      refine bg fun G' g' => ?_
      obtain ⟨v, rfl, s1, hl1⟩ := h'
      refine g' ?_
      clear g' G'
      rw [List.length_map, hcl, ← hwl, List.take_length] at hl1
      exact ⟨_, rfl, k l H1 hl hl1 s1⟩
open Tb in
theorem ok_tell_table (t : T K mg c) : GF P w K mg base CX0 5 "tell_table" ["names", "lines"] (Tb.spTable K) := by
  refine t.f_tell_table.ok sc_tell_table (fun vs H Q E h => ?_) (fun f cdv A outer s H vs Q E hr h => ?_)
  · refine bg fun G' g' => ?_
    obtain ⟨a, b, as, bs, names, rows, rfl, _⟩ := h
    refine g' ?_
    clear g' G'
    rfl
  · refine bg fun G' g' => ?_
    obtain ⟨a, b, as, bs, names, rows, rfl, hSa, La, hSb, Lb, T, k⟩ := h
    refine g' ?_
    clear g' G'
    obtain ⟨t_LINE_FEED, e_LINE_FEED⟩ := t.i_LINE_FEED
    obtain ⟨t_DASH, e_DASH⟩ := t.i_DASH
    refine ⟨_, (pss_cons (ps_set (i := 2) sc_tell_table.nd rfl (by first | exact Or.inl rfl | exact Or.inr rfl) (pe_lst pa_nil))
      (pss_cons (ps_for PassesOwn.never rfl (pi_range1 (by rfl) t.b_range (pa_cons (pe_callB call_len_seq (by rfl) t.b_len PySem.boot_len (pa_cons (pv 0) pa_nil)) pa_nil)) (pg_name (i := 3) sc_tell_table.nd rfl (by first | exact Or.inl rfl | exact Or.inr rfl)) (pss_one (ps_expr (pe_bm PySem.F.plainAttrs_list PySem.F.slot_list_append PySem.F.type_list_append mt_append (pv 2) (pa_cons (pe_callG (ok_at_the_right t) hr pass0 (pa_cons (pe_op (op_catR) (pe_lst (pa_cons (pe_ix ix_list (pv 0) (pv 3) (fun _ _ => rfl)) pa_nil)) (pe_lc rfl sc_tell_table.nd (pi_list (pv 1)) (blkOk_by (own := [("line", 7)]) (show blkC ["names", "lines", "columns", "k", "head", "text", "row", "line"] (defScope s_tell_table) _ _ = true by decide +kernel)) (fun _ _ _ _ _ => pg_name (i := 7) sc_tell_table.nd rfl (by first | exact Or.inl rfl | exact Or.inr rfl)) (fun _ _ _ _ _ => pts_nil) (fun _ _ _ _ _ => (pe_callG (ok_tell_decimal t) hr pass0 (pa_cons (pe_ix (r := rIxL K) ix_list (pv 7) (pv 3) (fun _ _ => rfl)) pa_nil))))) pa_nil)) pa_nil)))))
      (pss_cons (ps_set (i := 4) sc_tell_table.nd rfl (by first | exact Or.inl rfl | exact Or.inr rfl) (pe_callG (ok_tell_row t) hr pass0 (pa_cons (pv 2) (pa_cons pe_int pa_nil))))
      (pss_cons (ps_set (i := 5) sc_tell_table.nd rfl (by first | exact Or.inl rfl | exact Or.inr rfl) (pe_op (op_catR) (pe_op (op_catR) (pe_op (op_catR) (pv 4) (pe_lst (pa_cons (pe_glob (v := .int 10) (by rfl) e_LINE_FEED ⟨t_LINE_FEED, rfl⟩) pa_nil))) (pe_op op_rep (pe_lst (pa_cons (pe_glob (v := .int 45) (by rfl) e_DASH ⟨t_DASH, rfl⟩) pa_nil)) (pe_callB call_len_seq (by rfl) t.b_len PySem.boot_len (pa_cons (pv 4) pa_nil)))) (pe_lst (pa_cons (pe_glob (v := .int 10) (by rfl) e_LINE_FEED ⟨t_LINE_FEED, rfl⟩) pa_nil))))
      (pss_cons (ps_for PassesOwn.never rfl (pi_range2 (by rfl) t.b_range (pa_cons pe_int (pa_cons (pe_op op_add (pe_callB call_len_seq (by rfl) t.b_len PySem.boot_len (pa_cons (pv 1) pa_nil)) pe_int) pa_nil))) (pg_name (i := 6) sc_tell_table.nd rfl (by first | exact Or.inl rfl | exact Or.inr rfl)) (pss_one (ps_expr (pe_bm PySem.F.plainAttrs_list PySem.F.slot_list_extend PySem.F.type_list_extend mt_extend (pv 5) (pa_cons (pe_op (op_catR) (pe_callG (ok_tell_row t) hr pass0 (pa_cons (pv 2) (pa_cons (pv 6) pa_nil))) (pe_lst (pa_cons (pe_glob (v := .int 10) (by rfl) e_LINE_FEED ⟨t_LINE_FEED, rfl⟩) pa_nil))) pa_nil)))))
      (pss_one (ps_ret (pv 5)))))))), ?_⟩
    obtain ⟨TX, eTX⟩ : ∃ TX, TXof names rows = TX := ⟨_, rfl⟩
    have hal : as.length = names.length := La.len
    have hbl : bs.length = rows.length := Lb.len
    obtain ⟨n, en⟩ : ∃ n, names.length = n := ⟨_, rfl⟩
    have hn1 := T.n1
    have hn2 := T.n2
    have hr1 := T.r1
    rw [en] at hn1 hn2 hal
    have eTab := table_eq names (rows.map fun r => r.map Sh27.decimal) (fun r hr' => by
      refine bg fun G' g' => ?_
      obtain ⟨q, hq, rfl⟩ := List.mem_map.mp hr'
      refine g' ?_
      clear g' G'
      rw [List.length_map, (T.rl q hq).1])
    have rl := rowT_len T
    have rsl := rowsT_len T
    have wkl := wk_le T
    have txl := TX_getD T
    have txr := TX_len T
    rw [show names :: (rows.map fun r => r.map Sh27.decimal) = TX from eTX, en, List.length_map] at eTab
    rw [eTX, en] at rl rsl
    rw [eTX] at wkl txl txr
    rw [eTab] at k
    refine ⟨(by show 0 ≤ sizeLine; decide), fun L hL => ?_⟩
    have s0 : Same H (upd H L (.lst [])) := same_upd hL
    refine ⟨_, rfl, a, _, rfl, .inl (s0.seq hSa), _, rfl, by (clear hL eTab hr1 hn2 hn1 en hal hbl eTX e_DASH e_LINE_FEED; omega), by rw [List.length_map, hal]; (clear hL eTab hr1 hal hbl eTX e_DASH e_LINE_FEED; omega), for_range (fun i σ H' => ∃ (v3 v7 : Option V) (cs : List Addr), σ = [some (.ref a), some (.ref b), some (.ref L), v3, none, none, none, v7] ∧ Same H H' ∧ H' L = some (.lst (cs.map V.ref)) ∧ L3 (hide H' L) cs ((List.range i).map (colT TX)))
      ⟨none, none, [], rfl, s0, upd_same, ⟨rfl, fun j b r h1 _ => by simp at h1⟩⟩ ?_ ?_⟩
    · intro i σ H1 hi h'
      refine bg fun G' g' => ?_
      obtain ⟨v3, v7, cs, rfl, s1, hL1, R⟩ := h'
      refine g' ?_
      clear g' G'
      have hi' : i < n := by
        rw [List.length_map, hal] at hi
        (clear hL1 hL eTab hr1 hal hbl eTX e_DASH e_LINE_FEED; omega)
      have hin : i < names.length := by (clear hL1 hi hL eTab hr1 hn2 hn1 hal hbl eTX e_DASH e_LINE_FEED; omega)
      have hia : i < as.length := by (clear hin hL1 hi hL eTab hr1 hn2 hn1 hbl eTX e_DASH e_LINE_FEED; omega)
      have hcl : cs.length = i := by rw [R.len]; simp
      have hna := La.at_ i as[i] names[i] (List.getElem?_eq_getElem hia) (List.getElem?_eq_getElem hin)
      refine ⟨_, rfl, .inl ⟨rfl, _, SqL.of hL1⟩, ?_⟩
      refine ⟨_, rfl, _, rfl, a, _, _, V.ref as[i], rfl, rfl, s1.seq hSa, atI_of (j := i) (by (clear hcl hi' hL1 hi hL eTab hr1 hn2 hn1 en hal hbl eTX e_DASH e_LINE_FEED; omega)) (by simp [hia]), (by show 1 ≤ sizeLine; decide), fun b1 hb1 => ?_⟩
      have sb1 : Same H1 (upd H1 b1 (.lst [V.ref as[i]])) := same_upd hb1
      generalize hH2 : upd H1 b1 (.lst [V.ref as[i]]) = H2 at sb1
      have hb12 : H2 b1 = some (.lst [V.ref as[i]]) := by rw [← hH2]; exact upd_same
      have s12 : Same H H2 := s1.trans sb1
      refine ⟨_, rfl, b, rfl, ⟨_, s12.seq hSb⟩, fun D hD => lc_list (K := K) (a := b) (xs := bs.map V.ref) (fun m H' => ∃ ds : List Addr, H' D = some (.lst (ds.map V.ref)) ∧ LLN H2 D H' ds ((rows.take m).map fun r => Sh27.decimal (r.getD i 0)) ∧ Same H2 H')
        ⟨[], upd_same, ⟨rfl, fun j b q e1 _ => by simp at e1⟩, same_upd hD⟩ (fun m H' _ ⟨_, _, _, e⟩ => (s12.trans e).seq hSb) ?_ ?_⟩
      · intro m y H' hm h'
        refine bg fun G' g' => ?_
        obtain ⟨ds, hD', LD, s'⟩ := h'
        refine g' ?_
        clear g' G'
        refine bg fun G' g' => ?_
        obtain ⟨d, rfl, hd⟩ := refs_get hm
        refine g' ?_
        clear g' G'
        refine bg fun G' g' => ?_
        obtain ⟨r, hr', hSr⟩ := Lb.get hd
        refine g' ?_
        clear g' G'
        obtain ⟨q1, q2⟩ := T.rl r (List.mem_of_getElem? hr')
        have hir : i < r.length := by (clear hr' hm hd hD' hD hb12 hH2 hb1 hL1 hi hL eTab hr1 hn2 hn1 hal hbl eTX e_DASH e_LINE_FEED; omega)
        obtain ⟨q3, q4⟩ := q2 _ (List.getElem_mem hir)
        have hml : m < rows.length := (List.getElem?_eq_some_iff.mp hr').1
        have hdl : ds.length = m := by
          rw [LD.len, List.length_map, List.length_take]
          (clear q4 q3 q1 hr' hm hd hD' hD hb12 hH2 hb1 hcl hi' hL1 hi hL eTab hr1 hn2 hn1 en hal hbl eTX e_DASH e_LINE_FEED; omega)
        have egd : r.getD i 0 = r[i] := by rw [List.getD_eq_getElem?_getD, List.getElem?_eq_getElem hir]; rfl
        refine ⟨rfl, yesT ?_⟩
        refine ⟨_, rfl, _, rfl, d, _, _, _, rfl, rfl, (hSr.same (s12.trans s')).sq, atI_of (j := i) (by (clear egd hdl hml q4 q3 q1 hr' hm hd hD' hD hb12 hH2 hb1 hcl hi' hL1 hi hL eTab hr1 hn2 hn1 en hal hbl eTX e_DASH e_LINE_FEED; omega)) (nI_at (List.getElem?_eq_getElem hir)), r[i], rfl, q3, q4, fun q Hq hq0 hq sq => ?_⟩
        have hqD : q ≠ D := fun z => by
          rw [z, hD'] at hq0
          cases hq0
        refine ⟨_, sq _ _ hD', ?_, ds ++ [q], by rw [List.map_append]; exact upd_same, ?_, same_keep (s'.trans sq) hD⟩
        · rw [List.length_map, hdl]
          exact Nat.lt_of_lt_of_le hml (Nat.le_trans hr1 (by decide))
        · rw [take_map_succ _ hr', egd]
          refine LLN.snoc ?_ (s'.free hq0) hqD (by rw [upd_ne hqD]; exact hq)
          refine LD.same fun x o ex => ?_
          have hxD : x ≠ D := fun z => by
            subst z
            rw [hide_self] at ex
            cases ex
          rw [upd_ne hxD]
          exact sq x o (hide_same x o ex)
      · intro H3 h'
        refine bg fun G' g' => ?_
        obtain ⟨ds, hD3, LD, s3⟩ := h'
        refine g' ?_
        clear g' G'
        rw [List.length_map, hbl, List.take_length] at LD
        have hdl : ds.length = rows.length := by rw [LD.len, List.length_map]
        refine ⟨b1, D, _, _, rfl, rfl, .of (s3 _ _ hb12), .of hD3, ?_, fun b4 hb4 => ?_⟩
        · rw [List.length_map, hdl]
          exact Nat.le_trans (show _ ≤ 1000 by simp only [List.length_singleton]; (clear hD3 hD hb12 hH2 hb1 hcl hi' hL1 hi hL eTab hn2 hn1 en hal eTX e_DASH e_LINE_FEED; omega)) (by decide)
        · have s4 := same_upd (o := .lst ([V.ref as[i]] ++ ds.map V.ref)) hb4
          have s14 : Same H1 (upd H3 b4 (.lst ([V.ref as[i]] ++ ds.map V.ref))) := (sb1.trans s3).trans s4
          have s04 := s1.trans s14
          generalize hH4 : upd H3 b4 (.lst ([V.ref as[i]] ++ ds.map V.ref)) = H4 at s4 s14 s04
          have hb44 : H4 b4 = some (.lst ((as[i] :: ds).map V.ref)) := by rw [← hH4]; exact upd_same
          have ecol : (names[i] :: rows.map fun r => Sh27.decimal (r.getD i 0)) = TX.map fun r => r.getD i [] := by
            rw [← eTX]
            unfold TXof
            rw [List.map_cons, List.map_map]
            congr 1
            · rw [List.getD_eq_getElem?_getD, List.getElem?_eq_getElem hin]
              rfl
            · apply List.map_congr_left
              intro r hr'
              have hir : i < r.length := by rw [(T.rl r hr').1]; exact hin
              simp only [Function.comp]
              rw [List.getD_eq_getElem?_getD, List.getD_eq_getElem?_getD, List.getElem?_map, List.getElem?_eq_getElem hir]
              rfl
          have LSw : LS K H4 (as[i] :: ds) (names[i] :: rows.map fun r => Sh27.decimal (r.getD i 0)) := by
            refine ⟨by simp [hdl], fun j d x h1 h2 => ?_⟩
            cases j with
            | zero =>
              simp only [List.getElem?_cons_zero, Option.some.injEq] at h1 h2
              subst h1 h2
              exact hna.same s04
            | succ j =>
              simp only [List.getElem?_cons_succ] at h1 h2
              exact .of (s4 _ _ (LD.at_ j d x h1 h2).2.2)
          rw [ecol] at LSw
          have TXl : TX.length = rows.length + 1 := by rw [← eTX]; simp [TXof]
          refine ⟨b4, _, _, rfl, SqL.of hb44, LSw, by rw [List.length_map]; (clear ecol hb44 hH4 hb4 hD3 hD hb12 hH2 hb1 hcl hi' hL1 hi hL eTab hn2 hn1 en hal eTX e_DASH e_LINE_FEED; omega), by rw [List.length_map]; (clear ecol hb44 hH4 hb4 hD3 hD hb12 hH2 hb1 hcl hi' hL1 hi hL eTab hn2 hn1 en hal eTX e_DASH e_LINE_FEED; omega), fun x hx => ?_, fun l5 H5 es hl50 hl5 LL5 s5 => ?_⟩
          · refine bg fun G' g' => ?_
            obtain ⟨r, hr', rfl⟩ := List.mem_map.mp hx
            refine g' ?_
            clear g' G'
            rw [List.getD_eq_getElem?_getD]
            cases e2 : r[i]? with
            | none => simp
            | some x => exact Nat.le_trans ((txr r hr').2 x (List.mem_of_getElem? e2)) (by decide)
          · rw [col_room] at LL5
            have hL4 := s14 _ _ hL1
            have hL5 := s5 _ _ hL4
            have nl5 : l5 ≠ L := fun z => by
              rw [z, hL4] at hl50
              cases hl50
            refine ⟨L, _, _, rfl, rfl, hL5, ?_, _, _, cs ++ [l5], rfl, same_keep (s04.trans s5) hL, by rw [List.map_append]; exact upd_same, ?_⟩
            · rw [List.length_map, hcl]
              exact Nat.lt_of_lt_of_le hi' (Nat.le_trans hn2 (by decide))
            · rw [hide_upd, range_map_succ]
              refine (R.same (hide_mono (s14.trans s5))).snoc (hide_in nl5 hl5) ⟨LL5.len, fun j d x h1 h2 => ?_⟩
              refine bg fun G' g' => ?_
              obtain ⟨c1, c2, c3⟩ := LL5.at_ j d x h1 h2
              refine g' ?_
              clear g' G'
              have ndL : d ≠ L := fun z => by
                rw [z, hL4] at c1
                cases c1
              exact hide_in ndL c3
    · intro σ H1 h'
      refine bg fun G' g' => ?_
      obtain ⟨v3, v7, cs, rfl, s1, hL1, R⟩ := h'
      refine g' ?_
      clear g' G'
      rw [show (((as.map V.ref).length : Nat) : Int).toNat = n by rw [List.length_map, hal]; (clear hL1 hL eTab hr1 hal hbl eTX e_DASH e_LINE_FEED; omega)] at R
      have R1 : L3 H1 cs ((List.range n).map (colT TX)) := R.same hide_same
      have hcols : ∀ j, j ≤ rows.length → ∀ x ∈ (List.range n).map (colT TX), j < x.length ∧ ∀ y ∈ x, y.length ≤ 100 := fun j hj x hx => by
        refine bg fun G' g' => ?_
        obtain ⟨q, _, rfl⟩ := List.mem_map.mp hx
        refine g' ?_
        clear g' G'
        have TXl : TX.length = rows.length + 1 := by rw [← eTX]; simp [TXof]
        refine ⟨by unfold colT; rw [List.length_map]; (clear hL1 hL eTab hr1 hn2 hn1 en hal hbl eTX e_DASH e_LINE_FEED; omega), fun y hy => ?_⟩
        unfold colT at hy
        refine bg fun G' g' => ?_
        obtain ⟨r, hr', rfl⟩ := List.mem_map.mp hy
        refine g' ?_
        clear g' G'
        rw [right_len]
        have h1 := wkl q
        have h2 : (r.getD q []).length ≤ 41 := by
          rw [List.getD_eq_getElem?_getD]
          cases e2 : r[q]? with
          | none => simp
          | some x => exact (txr r hr').2 x (List.mem_of_getElem? e2)
        (clear TXl hj hL1 hL eTab hr1 hn2 hn1 en hal hbl eTX e_DASH e_LINE_FEED; omega)
      have hrow : ∀ j, j ≤ rows.length → (((List.range n).map (colT TX)).map fun x => x.getD j []) = (List.range n).map fun q => Sh27.right (wk TX q) ((TX.getD j []).getD q []) := fun j hj => by
        have TXl : TX.length = rows.length + 1 := by rw [← eTX]; simp [TXof]
        rw [List.map_map]
        apply List.map_congr_left
        intro q _
        simp only [Function.comp]
        unfold colT
        rw [List.getD_eq_getElem?_getD, List.getElem?_map, List.getD_eq_getElem?_getD (l := TX), List.getElem?_eq_getElem (show j < TX.length by (clear hL1 hL eTab hr1 hn2 hn1 en hal hbl eTX e_DASH e_LINE_FEED; omega))]
        rfl
      have erow : ∀ j, j ≤ rows.length → rowJ (((List.range n).map (colT TX)).map fun x => x.getD j []) = rowT TX n j := fun j hj => by rw [hrow j hj]; rfl
      have hnl : ((List.range n).map (colT TX)).length ≤ 16 := by rw [List.length_map, List.length_range]; exact hn2
      refine ⟨_, rfl, L, cs, _, 0, rfl, hL1, R1, hnl, hcols 0 (Nat.zero_le _), fun hd H2 hd0 hd2 s2 => ?_⟩
      rw [erow 0 (Nat.zero_le _)] at hd2
      obtain ⟨T0, eT0⟩ : ∃ T0, rowT TX n 0 = T0 := ⟨_, rfl⟩
      have T0l : T0.length ≤ 688 := by rw [← eT0]; exact rl 0
      rw [eT0] at hd2 k
      refine ⟨_, rfl, (by show 1 ≤ sizeLine; decide), fun c1 hc1 => ?_⟩
      have sc1 := same_upd (o := .lst [V.int 10]) hc1
      refine ⟨hd, c1, _, _, rfl, rfl, .of (sc1 _ _ hd2), .of upd_same, ?_, fun c2 hc2 => ?_⟩
      · rw [nI_len]
        exact Nat.le_trans (show _ ≤ 1000 by simp only [List.length_singleton]; (clear hc1 eT0 hd2 hd0 hnl hL1 hL eTab hr1 hn2 hn1 en hal hbl eTX e_DASH e_LINE_FEED; omega)) (by decide)
      have sc2 := same_upd (o := .lst (nI T0 ++ [V.int 10])) hc2
      refine ⟨(by show 1 ≤ sizeLine; decide), fun c3 hc3 => ?_⟩
      have sc3 := same_upd (o := .lst [V.int 45]) hc3
      have s23 := (sc1.trans sc2).trans sc3
      refine ⟨_, rfl, hd, _, rfl, .inl (SqL.of (s23 _ _ hd2)), c3, _, _, rfl, rfl, upd_same, ?_, ?_, ?_, fun c4 hc4 => ?_⟩
      · rw [nI_len]; (clear hc3 hc2 hc1 eT0 hd2 hd0 hnl hL1 hL eTab hr1 hn2 hn1 en hal hbl eTX e_DASH e_LINE_FEED; omega)
      · rw [nI_len]; (clear hc3 hc2 hc1 eT0 hd2 hd0 hnl hL1 hL eTab hr1 hn2 hn1 en hal hbl eTX e_DASH e_LINE_FEED; omega)
      · rw [nI_len]
        show 1 * ((T0.length : Nat) : Int).toNat ≤ sizeLine
        rw [Nat.one_mul, Int.toNat_natCast]
        exact Nat.le_trans T0l (by decide)
      have er : (List.replicate (((nI T0).length : Nat) : Int).toNat [V.int 45]).flatten = nI (List.replicate T0.length 45) := by
        rw [Int.toNat_natCast, nI_len]
        generalize T0.length = m
        induction m with
        | zero => rfl
        | succ m ih =>
          rw [List.replicate_succ, List.flatten_cons, ih]
          rfl
      rw [er]
      have sc4 := same_upd (o := .lst (nI (List.replicate T0.length 45))) hc4
      refine ⟨c2, c4, _, _, rfl, rfl, .of (sc4 _ _ (sc3 _ _ upd_same)), .of upd_same, ?_, fun c5 hc5 => ?_⟩
      · simp only [List.length_append, nI_len, List.length_singleton, List.length_replicate]
        exact Nat.le_trans (show _ ≤ 3000 by (clear er hc4 hc3 hc2 hc1 eT0 hd2 hd0 hnl hL1 hL eTab hr1 hn2 hn1 en hal hbl eTX e_DASH e_LINE_FEED; omega)) (by decide)
      have sc5 := same_upd (o := .lst (nI T0 ++ [V.int 10] ++ nI (List.replicate T0.length 45))) hc5
      refine ⟨(by show 1 ≤ sizeLine; decide), fun c6 hc6 => ?_⟩
      have sc6 := same_upd (o := .lst [V.int 10]) hc6
      refine ⟨c5, c6, _, _, rfl, rfl, .of (sc6 _ _ upd_same), .of upd_same, ?_, fun tx htx => ?_⟩
      · simp only [List.length_append, nI_len, List.length_singleton, List.length_replicate]
        exact Nat.le_trans (show _ ≤ 3000 by (clear hc6 hc5 er hc4 hc3 hc2 hc1 eT0 hd2 hd0 hnl hL1 hL eTab hr1 hn2 hn1 en hal hbl eTX e_DASH e_LINE_FEED; omega)) (by decide)
      obtain ⟨HD, eHD⟩ : ∃ HD, (T0 ++ [10]) ++ (List.replicate T0.length 45 ++ [10]) = HD := ⟨_, rfl⟩
      have HDl : HD.length ≤ 1400 := by
        rw [← eHD]
        simp only [List.length_append, List.length_singleton, List.length_replicate]
        (clear eHD htx hc6 hc5 er hc4 hc3 hc2 hc1 eT0 hd2 hd0 hnl hL1 hL eTab hr1 hn2 hn1 en hal hbl eTX e_DASH e_LINE_FEED; omega)
      have etx : nI T0 ++ [V.int 10] ++ nI (List.replicate T0.length 45) ++ [V.int 10] = nI HD := by
        rw [← eHD, nI_app, nI_app, nI_app, ← List.append_assoc]
        rfl
      rw [etx]
      rw [eHD] at k
      have s16 := (s23.trans sc4).trans (sc5.trans sc6)
      have s2x := s16.trans (same_upd (o := .lst (nI HD)) htx)
      have htxH : H tx = none := (s1.trans (s2.trans s16)).free htx
      have s0x := s1.trans (s2.trans s2x)
      have htxH1 : H1 tx = none := (s2.trans s16).free htx
      have hL2 := s2 _ _ hL1
      have k' : Fresh H (nI (HD ++ rowsT TX n rows.length)) Q := k
      generalize hHx : upd _ tx (.lst (nI HD)) = Hx at s2x s0x
      have hx0 : Hx tx = some (.lst (nI HD)) := by rw [← hHx]; exact upd_same
      refine ⟨_, rfl, b, _, rfl, .inl (s0x.seq hSb), _, _, rfl, rfl, _, _, rfl, ⟨by decide, by decide, by (clear hx0 hHx hL2 htxH1 htxH etx HDl eHD htx hc6 hc5 er hc4 hc3 hc2 hc1 T0l eT0 hd2 hd0 hnl hL1 hL eTab hr1 hn2 hn1 en hal hbl eTX e_DASH e_LINE_FEED; omega), by rw [List.length_map, hbl]; omega⟩, for_range (fun i σ H' => ∃ (v6 : Option V), σ = [some (.ref a), some (.ref b), some (.ref L), v3, some (.ref hd), some (.ref tx), v6, v7] ∧ Same H1 H' ∧ H' tx = some (.lst (nI (HD ++ rowsT TX n i))))
        ⟨none, rfl, s2.trans s2x, by rw [hx0]; unfold rowsT; simp⟩ ?_ ?_⟩
      · intro i σ H3 hi h'
        refine bg fun G' g' => ?_
        obtain ⟨v6, rfl, s3, hx3⟩ := h'
        refine g' ?_
        clear g' G'
        have hi' : i < rows.length := by
          rw [List.length_map, hbl] at hi
          (clear hx3 hx0 hHx hL2 htxH1 htxH etx HDl eHD htx hc6 hc5 er hc4 hc3 hc2 hc1 T0l eT0 hd2 hd0 hnl hL1 hL eTab hr1 hn2 hn1 en hal hbl eTX e_DASH e_LINE_FEED; omega)
        have hxl : (HD ++ rowsT TX n i).length ≤ 200000 := by
          rw [List.length_append]
          have := rsl i
          (clear hx3 hi hx0 hHx hL2 htxH1 htxH etx eHD htx hc6 hc5 er hc4 hc3 hc2 hc1 T0l eT0 hd2 hd0 hnl hL1 hL eTab hn2 hn1 en hal eTX e_DASH e_LINE_FEED; omega)
        refine ⟨_, rfl, .inl ⟨rfl, _, SqL.of hx3⟩, _, rfl, _, rfl, L, cs, _, i + 1, ?_, s3 _ _ hL1, R1.same s3, hnl, hcols (i + 1) (by (clear hxl hx3 hi hx0 hHx hL2 htxH1 htxH etx HDl eHD htx hc6 hc5 er hc4 hc3 hc2 hc1 T0l eT0 hd2 hd0 hnl hL1 hL eTab hr1 hn2 hn1 en hal hbl eTX e_DASH e_LINE_FEED; omega)), fun q H4 hq0 hq s4 => ?_⟩
        · show [V.ref L, V.int (1 + ((i : Nat) : Int))] ++ [] = _
          rw [show (1 + ((i : Nat) : Int)) = ((i + 1 : Nat) : Int) by (clear hxl hi' hx3 hi hx0 hHx hL2 htxH1 htxH etx HDl eHD htx hc6 hc5 er hc4 hc3 hc2 hc1 T0l eT0 hd2 hd0 hnl hL1 hL eTab hr1 hn2 hn1 en hal hbl eTX e_DASH e_LINE_FEED; omega)]
          rfl
        rw [erow (i + 1) (by (clear hq hq0 hxl hx3 hi hx0 hHx hL2 htxH1 htxH etx HDl eHD htx hc6 hc5 er hc4 hc3 hc2 hc1 T0l eT0 hd2 hd0 hnl hL1 hL eTab hr1 hn2 hn1 en hal hbl eTX e_DASH e_LINE_FEED; omega))] at hq
        have rli := rl (i + 1)
        refine ⟨(by show 1 ≤ sizeLine; decide), fun e1 he1 => ?_⟩
        have se1 := same_upd (o := .lst [V.int 10]) he1
        refine ⟨q, e1, _, _, rfl, rfl, .of (se1 _ _ hq), .of upd_same, ?_, fun e2 he2 => ?_⟩
        · rw [nI_len]
          exact Nat.le_trans (show _ ≤ 1000 by simp only [List.length_singleton]; (clear he1 hq hq0 hxl hi' hx3 hi hx0 hHx hL2 htxH1 htxH etx HDl eHD htx hc6 hc5 er hc4 hc3 hc2 hc1 T0l eT0 hd2 hd0 hnl hL1 hL eTab hr1 hn2 hn1 en hal hbl eTX e_DASH e_LINE_FEED; omega)) (by decide)
        have se2 := same_upd (o := .lst (nI (rowT TX n (i + 1)) ++ [V.int 10])) he2
        have s34 := (s4.trans se1).trans se2
        refine ⟨tx, e2, _, _, rfl, rfl, s34 _ _ hx3, upd_same, ?_, some (.int (1 + ((i : Nat) : Int))), rfl, ?_, ?_⟩
        · rw [List.length_append] at hxl
          simp only [nI_len, List.length_append, List.length_singleton]
          exact Nat.le_trans (show _ ≤ 300000 by (clear he2 he1 hq hq0 hi' hx3 hi hx0 hHx hL2 htxH1 htxH etx HDl eHD htx hc6 hc5 er hc4 hc3 hc2 hc1 T0l eT0 hd2 hd0 hnl hL1 hL eTab hr1 hn2 hn1 en hal hbl eTX e_DASH e_LINE_FEED; omega)) (by decide)
        · exact same_keep (s3.trans s34) htxH1
        · rw [upd_same, rowsT_succ]
          simp only [nI_app, List.append_assoc]
          rfl
      · intro σ H3 h'
        refine bg fun G' g' => ?_
        obtain ⟨v6, rfl, s3, hx3⟩ := h'
        refine g' ?_
        clear g' G'
        rw [show ((((bs.map V.ref).length : Nat) : Int) + 1 - 1).toNat = rows.length by rw [List.length_map, hbl]; (clear hx3 hx0 hHx hL2 htxH1 htxH etx HDl eHD htx hc6 hc5 er hc4 hc3 hc2 hc1 T0l eT0 hd2 hd0 hnl hL1 hL eTab hn2 hn1 en hal eTX e_DASH e_LINE_FEED; omega)] at hx3
        exact ⟨_, rfl, k' tx H3 htxH hx3 (s1.trans s3)⟩
end
end S10

set_option Elab.async false
set_option maxRecDepth 100000
set_option linter.all false
namespace S10
open PySem L2 TL Cm
section
variable {P : Program} {w : World} {K : PySem.W.Frag} {mg : Str → Option Value} {base : Heap} {c : Cs}
theorem ok_power_for (t : T K mg c) : GF P w K mg base CX0 1 "power_for" ["over", "under"] spPowFor := by
  refine t.f_power_for.ok sc_power_for (fun vs H Q E h => ?_) (fun f cdv A outer s H vs Q E hr h => ?_)
  · refine bg fun G' g' => ?_
    obtain ⟨o, u, rfl, _⟩ := h
    refine g' ?_
    clear g' G'
    rfl
  · refine bg fun G' g' => ?_
    obtain ⟨o, u, rfl, ho, hu, ho2, hu2, k⟩ := h
    refine g' ?_
    clear g' G'
    obtain ⟨t_LEAST_POWER, e_LEAST_POWER⟩ := t.i_LEAST_POWER
    obtain ⟨t_LEAST_NORMAL_WHOLE, e_LEAST_NORMAL_WHOLE⟩ := t.i_LEAST_NORMAL_WHOLE
    refine ⟨_, (pss_cons (ps_set (i := 2) sc_power_for.nd rfl (by first | exact Or.inl rfl | exact Or.inr rfl) (pe_op op_sub (pe_op op_sub (pe_bm0 PySem.F.plainAttrs_int PyProof.Rows.slot_int_bit_length PyProof.Rows.type_int_bit_length mt_bits (pv 0)) (pe_bm0 PySem.F.plainAttrs_int PyProof.Rows.slot_int_bit_length PyProof.Rows.type_int_bit_length mt_bits (pv 1))) pe_int))
      (pss_cons (ps_cut (ps_if (pt_cmpR op_lt (pe_op op_shlB (pv 0) (pe_callB (call_max2 rfl) (by rfl) t.b_max (show bootBuiltins "max" = some (.builtin "max") by decide +kernel) (pa_cons (pe_un un_neg (pv 2)) (pa_cons pe_int pa_nil)))) (pe_op op_shlB (pe_op op_mulB (pv 1) (pe_glob (v := .int 4503599627370496) (by rfl) e_LEAST_NORMAL_WHOLE ⟨t_LEAST_NORMAL_WHOLE, rfl⟩)) (pe_callB (call_max2 rfl) (by rfl) t.b_max (show bootBuiltins "max" = some (.builtin "max") by decide +kernel) (pa_cons (pv 2) (pa_cons pe_int pa_nil)))) (nomark _)) (pss_one (ps_aug (i := 2) sc_power_for.nd rfl (by first | exact Or.inl rfl | exact Or.inr rfl) pe_int iop_sub)) pss_nil))
      (pss_one (ps_ret (pe_callB (call_max2 rfl) (by rfl) t.b_max (show bootBuiltins "max" = some (.builtin "max") by decide +kernel) (pa_cons (pv 2) (pa_cons (pe_glob (v := .int (-1074)) (by rfl) e_LEAST_POWER ⟨t_LEAST_POWER, rfl⟩) pa_nil))))))), ?_⟩
    have lo := bl_le ho2
    have lu := bl_le hu2
    have p1 : -(DM.pow0 o u) ≤ 3000 := by unfold DM.pow0; (clear e_LEAST_NORMAL_WHOLE e_LEAST_POWER hu2 ho2 hu ho; omega)
    have p2 : DM.pow0 o u ≤ 3000 := by unfold DM.pow0; (clear p1 e_LEAST_NORMAL_WHOLE e_LEAST_POWER hu2 ho2 hu ho; omega)
    refine ⟨_, rfl, rfl, _, rfl, rfl, _, rfl, rfl, _, rfl, rfl, _, _, rfl, rfl, _, _, rfl, rfl, ?_⟩
    try dsimp only
    rw [bits_bl, bits_bl, show ((DM.bl o : Nat) : Int) - ((DM.bl u : Nat) : Int) - 52 = DM.pow0 o u from rfl]
    refine ⟨fun σ' H' => H' = H ∧ σ' = [some (.int (o : Nat)), some (.int (u : Nat)), some (.int (DM.pow1 o u))], ?_, ?_⟩
    · refine ⟨_, rfl, _, rfl, _, rfl, _, _, rfl, ?_⟩
      try dsimp only
      rw [max0]
      refine ⟨_, _, rfl, rfl, ⟨by (clear lu lo e_LEAST_NORMAL_WHOLE e_LEAST_POWER hu2 ho2 hu ho; omega), by (clear lu lo e_LEAST_NORMAL_WHOLE e_LEAST_POWER hu2 ho2 hu ho; omega), (Bd.nat ho2).mono (by decide)⟩, _, rfl, _, _, rfl, rfl, ⟨(Bd.nat hu2).mono (by decide), (Bd.nat (k := 53) (n := 4503599627370496) (by decide)).mono (by decide)⟩, _, rfl, _, _, rfl, ?_⟩
      try dsimp only
      rw [max0]
      have ec : ((u : Nat) : Int) * 4503599627370496 = ((u * 2 ^ 52 : Nat) : Int) := by
        rw [Int.natCast_mul]
        rfl
      rw [ec]
      refine ⟨_, _, rfl, rfl, ⟨by (clear ec lu lo e_LEAST_NORMAL_WHOLE e_LEAST_POWER hu2 ho2 hu ho; omega), by (clear ec lu lo e_LEAST_NORMAL_WHOLE e_LEAST_POWER hu2 ho2 hu ho; omega), (Bd.nat (mul_lt2 (j := 53) hu2 (by decide))).mono (by decide)⟩, _, _, rfl, rfl, _, rfl, ?_⟩
      rw [Int.toNat_natCast, Int.toNat_natCast, castmul2, castmul2]
      have eb : decide (((o * 2 ^ (-DM.pow0 o u).toNat : Nat) : Int) < ((u * 2 ^ 52 * 2 ^ (DM.pow0 o u).toNat : Nat) : Int)) = DM.below o u := by
        unfold DM.below
        rw [Bool.eq_iff_iff, decide_eq_true_eq, decide_eq_true_eq]
        exact Int.ofNat_lt
      rw [eb]
      refine ite2 (fun h0 => ?_) (fun h0 => ?_)
      · refine ⟨_, rfl, _, _, rfl, rfl, rfl, ?_⟩
        unfold DM.pow1
        rw [if_pos h0]
        rfl
      · refine ⟨rfl, ?_⟩
        unfold DM.pow1
        rw [if_neg h0]
        rfl
    · rintro σ' H' ⟨rfl, rfl⟩
      refine ⟨_, rfl, _, _, rfl, ?_⟩
      have e : (if (-1074 : Int) > DM.pow1 o u then -1074 else DM.pow1 o u) = DM.powF o u := by
        unfold DM.powF
        split <;> omega
      rw [e]
      exact k
theorem ok_nearest_to_ratio (t : T K mg c) : GF P w K mg base (CXY P w c.TooGreat) 2 "nearest_to_ratio" ["over", "under"] (spRatio c.TooGreat) := by
  refine t.f_nearest_to_ratio.okX sc_nearest_to_ratio (fun vs H Q E h => ?_) (fun f cdv A outer s H vs Q E hr h => ?_)
  · refine bg fun G' g' => ?_
    obtain ⟨o, u, rfl, _⟩ := h
    refine g' ?_
    clear g' G'
    rfl
  · refine bg fun G' g' => ?_
    obtain ⟨o, u, rfl, ho, hu, ho2, hu2, k1, k2⟩ := h
    refine g' ?_
    clear g' G'
    obtain ⟨t_ENDLESS, e_ENDLESS⟩ := t.i_ENDLESS
    obtain ⟨t_LEAST_POWER, e_LEAST_POWER⟩ := t.i_LEAST_POWER
    refine ⟨_, (pss_cons (ps_set (i := 2) sc_nearest_to_ratio.nd rfl (by first | exact Or.inl rfl | exact Or.inr rfl) (pe_callG (ok_power_for t) hr pass0 (pa_cons (pv 0) (pa_cons (pv 1) pa_nil))))
      (pss_cons (ps_set (i := 0) sc_nearest_to_ratio.nd rfl (by first | exact Or.inl rfl | exact Or.inr rfl) (pe_op op_shlB (pv 0) (pe_callB (call_max2 rfl) (by rfl) t.b_max (show bootBuiltins "max" = some (.builtin "max") by decide +kernel) (pa_cons (pe_un un_neg (pv 2)) (pa_cons pe_int pa_nil)))))
      (pss_cons (ps_set (i := 1) sc_nearest_to_ratio.nd rfl (by first | exact Or.inl rfl | exact Or.inr rfl) (pe_op op_shlB (pv 1) (pe_callB (call_max2 rfl) (by rfl) t.b_max (show bootBuiltins "max" = some (.builtin "max") by decide +kernel) (pa_cons (pv 2) (pa_cons pe_int pa_nil)))))
      (pss_cons (ps_set (i := 3) sc_nearest_to_ratio.nd rfl (by first | exact Or.inl rfl | exact Or.inr rfl) (pe_op op_fdivB (pv 0) (pv 1)))
      (pss_cons (ps_set (i := 4) sc_nearest_to_ratio.nd rfl (by first | exact Or.inl rfl | exact Or.inr rfl) (pe_op op_sub (pv 0) (pe_op op_mulB (pv 3) (pv 1))))
      (pss_cons (ps_cut (ps_if (pt_cut (pw_or (pt_cmpR op_gt (pe_op op_mulB pe_int (pv 4)) (pv 1) (nomark _)) (pw_or1 (pw_and (pt_cmpR op_eq (pe_op op_mulB pe_int (pv 4)) (pv 1) (nomark _)) (pw_and1 (pt_cmpR op_eq (pe_op op_mod (pv 3) pe_int) pe_int (nomark _)))).pt)).pt) (pss_one (ps_aug (i := 3) sc_nearest_to_ratio.nd rfl (by first | exact Or.inl rfl | exact Or.inr rfl) pe_int iop_add)) pss_nil))
      (pss_cons (ps_set (i := 5) sc_nearest_to_ratio.nd rfl (by first | exact Or.inl rfl | exact Or.inr rfl) (pe_op op_add (pe_op op_shlB (pe_op op_sub (pv 2) (pe_glob (v := .int (-1074)) (by rfl) e_LEAST_POWER ⟨t_LEAST_POWER, rfl⟩)) pe_int) (pv 3)))
      (pss_cons (ps_if (pt_cmpR op_ge (pv 5) (pe_glob (v := .int 9218868437227405312) (by rfl) e_ENDLESS ⟨t_ENDLESS, rfl⟩) (nomark _)) (pss_one (ps_raiseY t.x_TooGreat.2 (by rfl) t.x_TooGreat.1)) pss_nil)
      (pss_one (ps_ret (pv 5))))))))))), ?_⟩
    have lo := bl_le ho2
    have lu := bl_le hu2
    obtain ⟨p, ep⟩ : ∃ p, DM.powF o u = p := ⟨_, rfl⟩
    have p1 : -1074 ≤ p := by rw [← ep]; unfold DM.powF; omega
    have p2 : p ≤ 3000 := by rw [← ep]; unfold DM.powF DM.pow1 DM.pow0; split <;> omega
    have eR : DM.ratioR o u = (p + 1074).toNat * 2 ^ 52 + Sh27.nearest (o * 2 ^ (-p).toNat) (u * 2 ^ p.toNat) := by rw [← ep]; rfl
    obtain ⟨O, eO⟩ : ∃ O, o * 2 ^ (-p).toNat = O := ⟨_, rfl⟩
    obtain ⟨U, eU⟩ : ∃ U, u * 2 ^ p.toNat = U := ⟨_, rfl⟩
    have bO : O < 2 ^ 4000 := by rw [← eO]; exact shl_lt (i := 2900) (n := 1100) ho2 _ (by (clear eU eO eR ep lu lo e_LEAST_POWER e_ENDLESS k2 k1 hu2 ho2 hu ho; omega))
    have bU : U < 2 ^ 6000 := by rw [← eU]; exact shl_lt (i := 2900) (n := 3100) hu2 _ (by (clear bO eU eO eR ep lu lo e_LEAST_POWER e_ENDLESS k2 k1 hu2 ho2 hu ho; omega))
    have hU : 0 < U := by rw [← eU]; exact Nat.mul_pos hu (Nat.two_pow_pos _)
    rw [eO, eU] at eR
    refine ⟨_, rfl, _, rfl, o, u, rfl, ho, hu, ho2, hu2, ?_⟩
    rw [ep]
    refine ⟨_, rfl, _, rfl, _, rfl, _, _, rfl, ?_⟩
    try dsimp only
    rw [max0]
    refine ⟨_, _, rfl, rfl, ⟨by (clear hU bU bO eU eR eO ep lu lo e_LEAST_POWER e_ENDLESS k2 k1 hu2 ho2 hu ho; omega), by (clear hU bU bO eU eR eO ep lu lo e_LEAST_POWER e_ENDLESS k2 k1 hu2 ho2 hu ho; omega), (Bd.nat ho2).mono (by decide)⟩, ?_⟩
    try dsimp only
    rw [Int.toNat_natCast, castmul2, eO]
    refine ⟨_, rfl, _, rfl, _, _, rfl, ?_⟩
    try dsimp only
    rw [max0]
    refine ⟨_, _, rfl, rfl, ⟨by (clear hU bU bO eU eR eO ep lu lo e_LEAST_POWER e_ENDLESS k2 k1 hu2 ho2 hu ho; omega), by (clear hU bU bO eU eR eO ep lu lo e_LEAST_POWER e_ENDLESS k2 k1 hu2 ho2 hu ho; omega), (Bd.nat hu2).mono (by decide)⟩, ?_⟩
    try dsimp only
    rw [Int.toNat_natCast, castmul2, eU]
    have bq : O / U < 2 ^ 4000 := Nat.lt_of_le_of_lt (Nat.div_le_self _ _) bO
    have br : O % U < 2 ^ 6000 := Nat.lt_trans (Nat.mod_lt _ hU) bU
    refine ⟨_, rfl, _, rfl, _, _, rfl, rfl, ⟨by (clear br bq bO eR eO p2 p1 ep lu lo e_LEAST_POWER e_ENDLESS k2 k1 hu2 ho2 hu ho; omega), (Bd.nat bU).mono (by decide)⟩, _, rfl, _, rfl, _, rfl, _, _, rfl, rfl, ⟨(Bd.nat bq).mono (by decide), (Bd.nat bU).mono (by decide)⟩, _, _, rfl, rfl, ?_⟩
    have er : ((O : Nat) : Int) - ((O / U : Nat) : Int) * ((U : Nat) : Int) = ((O % U : Nat) : Int) := by
      rw [← Int.natCast_mul]
      have := Nat.div_add_mod O U
      rw [Nat.mul_comm] at this
      (clear br bq hU bU bO eU eR eO p2 p1 ep lu lo e_LEAST_POWER e_ENDLESS k2 k1 hu2 ho2 hu ho; omega)
    try dsimp only
    rw [show (((O : Nat) : Int) - ((O : Nat) : Int) / ((U : Nat) : Int) * ((U : Nat) : Int)) = ((O % U : Nat) : Int) from er]
    have b2 : Bd 9000 (2 : Int) := (Bd.nat (k := 9) (n := 2) (by decide)).mono (by decide)
    refine ⟨fun σ' H' => H' = H ∧ σ' = [some (.int (O : Nat)), some (.int (U : Nat)), some (.int p), some (.int (Sh27.nearest O U : Nat)), some (.int ((O % U : Nat) : Int)), none], ?_, ?_⟩
    · refine ⟨fun b H' => H' = H ∧ b = decide (U < 2 * (O % U) ∨ (2 * (O % U) = U ∧ O / U % 2 = 1)), ?_, ?_⟩
      · refine ⟨_, rfl, _, _, rfl, rfl, ⟨b2, (Bd.nat br).mono (by decide)⟩, _, rfl, _, _, rfl, rfl, _, rfl, ite2 (fun h0 => ?_) (fun h0 => ?_)⟩
        · have h0' : (U : Int) < 2 * ((O % U : Nat) : Int) := by simpa using h0
          exact ⟨rfl, (decide_eq_true (.inl (by (clear h0 er br bq hU bU bO eU eR eO p2 p1 ep lu lo e_LEAST_POWER e_ENDLESS k2 k1 hu2 ho2 hu ho; omega)))).symm⟩
        · have h0' : ¬ (U : Int) < 2 * ((O % U : Nat) : Int) := by simpa using h0
          refine ⟨_, rfl, _, _, rfl, rfl, ⟨b2, (Bd.nat br).mono (by decide)⟩, _, rfl, rfl, _, rfl, ite2 (fun h1 => ?_) (fun h1 => ?_)⟩
          · have h1' : 2 * ((O % U : Nat) : Int) = (U : Int) := by simpa using h1
            refine ⟨_, rfl, _, _, rfl, rfl, (by show (0 : Int) < 2; decide), rfl, _, rfl, rfl, ?_⟩
            rw [Bool.eq_iff_iff]
            simp only [decide_eq_true_eq, V.int.injEq]
            constructor
            · intro z
              right
              have z' : ((O / U : Nat) : Int) % 2 = 1 := z
              (clear h1 h0' h0 er br bq hU bU bO eU eR eO p2 p1 ep lu lo e_LEAST_POWER e_ENDLESS k2 k1 hu2 ho2 hu ho; omega)
            · rintro (z | ⟨_, z⟩)
              · (clear h1 h0' h0 er br bq hU bU bO eU eR eO p2 p1 ep lu lo e_LEAST_POWER e_ENDLESS k2 k1 hu2 ho2 hu ho; omega)
              · show ((O / U : Nat) : Int) % 2 = 1
                (clear h1' h1 h0' h0 er br bq hU bU bO eU eR eO p2 p1 ep lu lo e_LEAST_POWER e_ENDLESS k2 k1 hu2 ho2 hu ho; omega)
          · have h1' : ¬ 2 * ((O % U : Nat) : Int) = (U : Int) := by simpa using h1
            exact ⟨rfl, (decide_eq_false (by (clear h1 h0 er br bq hU bU bO eU eR eO p2 p1 ep lu lo e_LEAST_POWER e_ENDLESS k2 k1 hu2 ho2 hu ho; omega))).symm⟩
      · rintro b H' ⟨rfl, rfl⟩
        refine ite2 (fun h0 => ?_) (fun h0 => ?_)
        · have h0' := of_decide_eq_true h0
          refine ⟨_, rfl, _, _, rfl, rfl, rfl, ?_⟩
          have e : Sh27.nearest O U = O / U + 1 := by
            unfold Sh27.nearest
            try dsimp only
            rw [if_neg (by (clear h0 k1 er br bq hU bU bO eU eR eO p2 p1 ep lu lo e_LEAST_POWER e_ENDLESS k2 hu2 ho2 hu ho; omega))]
            split
            · rfl
            · rw [show O / U % 2 = 1 by (clear h0 k1 er br bq hU bU bO eU eR eO p2 p1 ep lu lo e_LEAST_POWER e_ENDLESS k2 hu2 ho2 hu ho; omega)]
          rw [e]
          rfl
        · have h0' : ¬ (U < 2 * (O % U) ∨ (2 * (O % U) = U ∧ O / U % 2 = 1)) := by simpa using h0
          refine ⟨rfl, ?_⟩
          have e : Sh27.nearest O U = O / U := by
            unfold Sh27.nearest
            try dsimp only
            split
            · rfl
            · rw [if_neg (by (clear h0 k1 er br bq hU bU bO eU eR eO p2 p1 ep lu lo e_LEAST_POWER e_ENDLESS k2 hu2 ho2 hu ho; omega)), show O / U % 2 = 0 by (clear h0 k1 er br bq hU bU bO eU eR eO p2 p1 ep lu lo e_LEAST_POWER e_ENDLESS k2 hu2 ho2 hu ho; omega)]
              rfl
          rw [e]
          rfl
    · rintro σ' H' ⟨rfl, rfl⟩
      refine ⟨_, rfl, _, _, rfl, rfl, _, _, rfl, rfl, ⟨by decide, by decide, ?_⟩, _, rfl, _, _, rfl, rfl, ?_⟩
      · show Bd 9000 (p - -1074)
        have : Bd 13 (p - -1074) := by
          show (p - -1074).natAbs < 2 ^ 13
          have : (2 : Nat) ^ 13 = 8192 := by decide
          (clear this k1 er br bq hU bU bO eU eR eO ep lu lo e_LEAST_POWER e_ENDLESS k2 hu2 ho2 hu ho; omega)
        exact this.mono (by decide)
      · have eb : (p - -1074) * 2 ^ ((52 : Int)).toNat + ((Sh27.nearest O U : Nat) : Int) = ((DM.ratioR o u : Nat) : Int) := by
          rw [eR]
          have : (p - -1074) = (((p + 1074).toNat : Nat) : Int) := by (clear er br bq hU bU bO eU eR eO ep lu lo e_LEAST_POWER e_ENDLESS k2 hu2 ho2 hu ho; omega)
          rw [this, Int.natCast_add, Int.natCast_mul]
          rfl
        try dsimp only
        rw [eb]
        refine ⟨_, rfl, _, _, rfl, rfl, _, rfl, ite2 (fun h0 => ?_) (fun h0 => ?_)⟩
        · have h0' : (9218868437227405312 : Int) ≤ ((DM.ratioR o u : Nat) : Int) := by simpa using h0
          refine k2 ?_ _
          rw [DM.inf_eq]
          (clear h0 eb k1 er br bq hU bU bO eU eO p2 p1 ep lu lo e_LEAST_POWER e_ENDLESS k2 hu2 ho2 hu ho; omega)
        · have h0' : ¬ (9218868437227405312 : Int) ≤ ((DM.ratioR o u : Nat) : Int) := by simpa using h0
          refine ⟨_, rfl, k1 ?_⟩
          rw [DM.inf_eq]
          (clear h0 eb k1 er br bq hU bU bO eU eO p2 p1 ep lu lo e_LEAST_POWER e_ENDLESS k2 hu2 ho2 hu ho; omega)
end
end S10

set_option Elab.async false
set_option maxRecDepth 100000
set_option linter.all false
namespace S10
open PySem L2 TL Cm
section
variable {P : Program} {w : World} {K : PySem.W.Frag} {mg : Str → Option Value} {base : Heap} {c : Cs}
theorem ok_nearest_to_decimal (t : T K mg c) : GF P w K mg base (CXY P w c.TooGreat) 3 "nearest_to_decimal" ["number", "tens"] (spNearD c.TooGreat) := by
  refine t.f_nearest_to_decimal.okX sc_nearest_to_decimal (fun vs H Q E h => ?_) (fun f cdv A outer s H vs Q E hr h => ?_)
  · refine bg fun G' g' => ?_
    obtain ⟨n, x, rfl, _⟩ := h
    refine g' ?_
    clear g' G'
    rfl
  · refine bg fun G' g' => ?_
    obtain ⟨n, x, rfl, hn, hx1, hx2, k1, k2⟩ := h
    refine g' ?_
    clear g' G'
    refine ⟨_, (pss_cons (ps_set (i := 2) sc_nearest_to_decimal.nd rfl (by first | exact Or.inl rfl | exact Or.inr rfl) (pe_op op_add (pe_callB call_len_str (by rfl) t.b_len PySem.boot_len (pa_cons (pe_callTy call_str_int (by rfl) t.b_str (show bootBuiltins "str" = some (.type "str") by decide +kernel) (pa_cons (pv 0) pa_nil)) pa_nil)) (pv 1)))
      (pss_cons (ps_if (pt_cut (pw_or (pt_cmpR op_eq (pv 0) pe_int (nomark _)) (pw_or1 (pt_cmpR op_lt (pv 2) (pe_un un_neg pe_int) (nomark _)))).pt) (pss_one (ps_ret pe_int)) pss_nil)
      (pss_cons (ps_if (pt_cmpR op_gt (pv 2) pe_int (nomark _)) (pss_one (ps_raiseY t.x_TooGreat.2 (by rfl) t.x_TooGreat.1)) pss_nil)
      (pss_one (ps_ret (pe_callG (ok_nearest_to_ratio t) hr pass_onY (pa_cons (pe_op op_mulB (pv 0) (pe_callG (ok_power_of_ten t) hr pass0 (pa_cons (pe_callB (call_max2 rfl) (by rfl) t.b_max (show bootBuiltins "max" = some (.builtin "max") by decide +kernel) (pa_cons (pv 1) (pa_cons pe_int pa_nil))) pa_nil))) (pa_cons (pe_callG (ok_power_of_ten t) hr pass0 (pa_cons (pe_callB (call_max2 rfl) (by rfl) t.b_max (show bootBuiltins "max" = some (.builtin "max") by decide +kernel) (pa_cons (pe_un un_neg (pv 1)) (pa_cons pe_int pa_nil))) pa_nil)) pa_nil)))))))), ?_⟩
    have hn2 : n < 2 ^ 281 := Nat.lt_trans hn (ten_lt (n := 70) (k := 70) (Nat.le_refl _))
    have hlog : ((n : Nat) : Int).natAbs.log2 < 1920 := Nat.lt_of_lt_of_le ((Bd.nat hn2).log (by decide)) (by decide)
    have hL : (Sh27.natText n).length ≤ 70 := DM.natLen (by decide) hn
    have el : (Str.ofString (toString ((n : Nat) : Int))).length = (Sh27.natText n).length := by
      rw [len_tl]
      exact congrArg List.length (tl_num n)
    refine ⟨_, rfl, _, rfl, hlog, _, rfl, by rw [el]; exact Nat.le_trans hL (by decide), _, rfl, _, _, rfl, rfl, ?_⟩
    try dsimp only
    rw [show ((Str.ofString (toString ((n : Nat) : Int))).length : Int) = ((Sh27.natText n).length : Int) from congrArg Int.ofNat el]
    obtain ⟨L, hLe⟩ : ∃ L, (Sh27.natText n).length = L := ⟨_, rfl⟩
    have eD : DM.decR n x = if n = 0 ∨ (L : Int) + x < -330 then some 0 else if 310 < (L : Int) + x then none
        else if Sh27.INF ≤ DM.ratioR (n * 10 ^ x.toNat) (10 ^ (-x).toNat) then none else some (DM.ratioR (n * 10 ^ x.toNat) (10 ^ (-x).toNat)) := by
      rw [← hLe]
      rfl
    rw [hLe] at hL ⊢
    refine ⟨fun b H' => H' = H ∧ b = decide (n = 0 ∨ (L : Int) + x < -330), ?_, ?_⟩
    · refine ⟨_, rfl, rfl, _, rfl, ite2 (fun h0 => ?_) (fun h0 => ?_)⟩
      · have h0' : ((n : Nat) : Int) = 0 := by simpa using h0
        exact ⟨rfl, (decide_eq_true (.inl (by omega))).symm⟩
      · have h0' : ¬ ((n : Nat) : Int) = 0 := by simpa using h0
        refine ⟨_, rfl, _, rfl, _, _, rfl, rfl, _, rfl, rfl, ?_⟩
        rw [Bool.eq_iff_iff]
        simp only [decide_eq_true_eq]
        constructor
        · exact fun z => .inr z
        · rintro (z | z)
          · omega
          · exact z
    · rintro b H' ⟨rfl, rfl⟩
      refine ite2 (fun h0 => ?_) (fun h0 => ?_)
      · have h0' := of_decide_eq_true h0
        exact k1 0 (by rw [eD, if_pos h0'])
      · have h0' : ¬ (n = 0 ∨ (L : Int) + x < -330) := by simpa using h0
        rw [if_neg h0'] at eD
        have n0 : 0 < n := by omega
        refine ⟨_, rfl, _, _, rfl, rfl, _, rfl, ite2 (fun h1 => ?_) (fun h1 => ?_)⟩
        · have h1' : (310 : Int) < (L : Int) + x := by simpa using h1
          exact k2 (by rw [eD, if_pos h1']) _
        · have h1' : ¬ (310 : Int) < (L : Int) + x := by simpa using h1
          rw [if_neg h1'] at eD
          refine ⟨_, rfl, _, rfl, _, _, rfl, ?_⟩
          try dsimp only
          rw [max0]
          refine ⟨_, rfl, by (clear h1 n0 h0 eD hLe el hlog hn2 k2 hn; omega), ?_⟩
          rw [Int.toNat_natCast]
          have t1 : 10 ^ x.toNat < 2 ^ 1401 := ten_lt (k := 350) (by (clear h1 n0 h0 eD hLe el hlog hn2 k2 hn; omega))
          have t2 : 10 ^ (-x).toNat < 2 ^ 2001 := ten_lt (k := 500) (by (clear t1 h1 n0 h0 eD hLe el hlog hn2 k2 hn; omega))
          refine ⟨_, _, rfl, rfl, ⟨(Bd.nat hn2).mono (by decide), (Bd.nat t1).mono (by decide)⟩, _, rfl, _, rfl, _, _, rfl, ?_⟩
          try dsimp only
          rw [max0]
          refine ⟨_, rfl, by (clear t2 t1 h1 n0 h0 eD hLe el hlog hn2 k2 hn; omega), ?_⟩
          rw [Int.toNat_natCast]
          refine ⟨n * 10 ^ x.toNat, 10 ^ (-x).toNat, ?_, Nat.mul_pos n0 (Nat.pow_pos (by decide)), Nat.pow_pos (by decide), Nat.lt_of_lt_of_le (mul_lt2 hn2 t1) (Nat.pow_le_pow_right (by decide) (by decide)), Nat.lt_of_lt_of_le t2 (Nat.pow_le_pow_right (by decide) (by decide)), fun hI => ?_, fun hI H'' => ?_⟩
          · rw [Int.natCast_mul]
            rfl
          · exact k1 _ (by rw [eD, if_neg (by (clear t2 t1 h1' h1 n0 h0' h0 eD hLe hL el hlog hn2 k2 hx2 hx1 hn; omega))])
          · exact k2 (by rw [eD, if_pos hI]) _
theorem ok_number_of (t : T K mg c) : GF P w K mg base CX0 1 "number_of" ["digits"] (spNumOf K) := by
  refine t.f_number_of.ok sc_number_of (fun vs H Q E h => ?_) (fun f cdv A outer s H vs Q E hr h => ?_)
  · refine bg fun G' g' => ?_
    obtain ⟨a, ds, rfl, _⟩ := h
    refine g' ?_
    clear g' G'
    rfl
  · refine bg fun G' g' => ?_
    obtain ⟨a, ds, rfl, hS, k⟩ := h
    refine g' ?_
    clear g' G'
    refine ⟨_, (pss_cons (ps_set (i := 1) sc_number_of.nd rfl (by first | exact Or.inl rfl | exact Or.inr rfl) pe_int)
      (pss_cons (ps_for PassesOwn.never rfl (pi_list (pv 0)) (pg_name (i := 2) sc_number_of.nd rfl (by first | exact Or.inl rfl | exact Or.inr rfl)) (pss_one (ps_set (i := 1) sc_number_of.nd rfl (by first | exact Or.inl rfl | exact Or.inr rfl) (pe_op op_add (pe_op op_mul (pv 1) pe_int) (pv 2)))))
      (pss_one (ps_ret (pv 1))))), ?_⟩
    obtain ⟨es, ees⟩ : ∃ es, ds.map (· - 48) = es := ⟨_, rfl⟩
    have ek : es.foldl (fun n d => n * 10 + d) 0 = Sh27.natOf ds := by rw [← ees]; exact natOf_foldl ds 0
    rw [ees] at hS
    refine ⟨_, rfl, a, rfl, ⟨_, hS⟩, for_list (K := K) (a := a) (xs := nI es) (fun i σ H' => ∃ v : Option V, H' = H ∧ σ = [some (.ref a), some (.int ((es.take i).foldl (fun n d => n * 10 + d) 0 : Nat)), v]) ⟨none, rfl, rfl⟩ (fun i σ H' _ ⟨_, e, _⟩ => by rw [e]; exact hS) ?_ ?_⟩
    · intro i y σ H' hi h'
      refine bg fun G' g' => ?_
      obtain ⟨v, rfl, rfl⟩ := h'
      refine g' ?_
      clear g' G'
      refine bg fun G' g' => ?_
      obtain ⟨z, rfl, hz⟩ := nI_get hi
      refine g' ?_
      clear g' G'
      refine ⟨_, rfl, _, _, rfl, rfl, .inr ⟨by decide, by decide⟩, _, rfl, _, _, rfl, rfl, some (V.int (z : Nat)), rfl, ?_⟩
      rw [List.take_add_one, hz, List.foldl_append]
      simp only [Option.toList_some, List.foldl_cons, List.foldl_nil]
      rw [Int.natCast_add, Int.natCast_mul]
      rfl
    · intro σ H' h'
      refine bg fun G' g' => ?_
      obtain ⟨v, rfl, rfl⟩ := h'
      refine g' ?_
      clear g' G'
      refine ⟨_, rfl, ?_⟩
      rw [nI_len, List.take_length, ek]
      exact k
theorem ok_Reader_digits (t : T K mg c) : GM P w K mg base (CXN P w c.NoSuchText) 3 c.Reader "digits" ["self", "most"] (spDigits K c.Reader c.NoSuchText) := by
  refine t.m_Reader_digits.okX sc_Reader_digits (fun vs H Q E h => ?_) (fun f cdv A outer s H vs Q E hr h => ?_)
  · refine bg fun G' g' => ?_
    obtain ⟨rd, a, tt, p, m, rfl, _⟩ := h
    refine g' ?_
    clear g' G'
    rfl
  · refine bg fun G' g' => ?_
    obtain ⟨rd, a, tt, p, m, rfl, R, hm, hm2, k1, k2⟩ := h
    refine g' ?_
    clear g' G'
    obtain ⟨dx, e⟩ := R.ob
    refine ⟨_, (pss_cons (ps_set (i := 2) sc_Reader_digits.nd rfl (by first | exact Or.inl rfl | exact Or.inr rfl) (pe_lst (pa_cons (pe_op op_sub (pe_methG (pv 0) t.c_Reader.2 (ok_Reader_byte t) hr pass_on (pa_cons pe_int (pa_cons pe_int pa_nil))) pe_int) pa_nil)))
      (pss_cons (ps_while PassesOwn.leaving (pt_cut (pw_and (pt_cmpR op_lt (pe_callB call_len_seq (by rfl) t.b_len PySem.boot_len (pa_cons (pv 2) pa_nil)) (pv 1) (nomark _)) (pw_and (pt_not (pt_val (pe_methG0 (pv 0) t.c_Reader.2 (ok_Reader_ended t) hr pass0))) (pw_and1 (pt_chain op_le op_le pe_int (pe_ix ix_list (pe_fld (pv 0) rfl) (pe_fld (pv 0) rfl) (fun _ _ => rfl)) pe_int)))).pt) (pss_cons (ps_expr (pe_bm PySem.F.plainAttrs_list PySem.F.slot_list_append PySem.F.type_list_append mt_append (pv 2) (pa_cons (pe_op op_sub (pe_ix ix_list (pe_fld (pv 0) rfl) (pe_fld (pv 0) rfl) (fun _ _ => rfl)) pe_int) pa_nil)))
      (pss_one (ps_fldaug (pv 0) pe_int in_add))))
      (pss_one (ps_ret (pv 2))))), ?_⟩
    refine ⟨_, rfl, rd, dx, _, rfl, e, rf_no _ _ (by decide +kernel) (by decide +kernel), rd, a, tt, p, 48, 57, rfl, R, fun b r hb q H1 R1 hq s1 => ?_, fun hb H1 => k2 (dig_none hb) H1⟩
    refine bg fun G' g' => ?_
    obtain ⟨⟨hb1, hb2⟩, ed⟩ := (Rd.byteR_iff _ _ _ _ _).mp hb
    refine g' ?_
    clear g' G'
    have hdig : ∀ c : Nat, 48 ≤ c → c ≤ 57 → Sh27.isDigit c = true := fun c h1 h2 => by
      unfold Sh27.isDigit
      rw [decide_eq_true h1, decide_eq_true h2]
      rfl
    have hm1 : 1 ≤ m := hm.resolve_right (by rw [ed]; exact fun z => nomatch z)
    refine ⟨_, _, rfl, rfl, (by show 1 ≤ sizeLine; decide), fun l hl => ?_⟩
    have hlr : l ≠ rd := R1.ne hl
    have hl0 : H l = none := by
      cases hz : H l with
      | none => rfl
      | some o =>
        have := s1 l o (hide_in hlr hz)
        rw [hl] at this
        cases this
    refine ⟨fun me σ H' => ∃ (q : Nat) (ds : List Nat), σ = [some (.ref rd), some (.int (m : Nat)), some (.ref l)] ∧ Rd1 K c.Reader H' rd a tt q ∧ H' l = some (.lst (nI (ds.map (· - 48)))) ∧ Same (hide H rd) H' ∧ tt.drop p = ds ++ tt.drop q ∧ (∀ c ∈ ds, Sh27.isDigit c = true) ∧ ds.length ≤ m ∧ ds ≠ [] ∧ me = tt.length - q,
      ⟨_, q, [b], rfl, R1.same (same_upd hl), ?_, s1.trans (same_upd hl), ?_, ?_, hm1, by simp, rfl⟩, ?_⟩
    · rw [upd_same]
      have : ((b : Nat) : Int) - 48 = ((b - 48 : Nat) : Int) := by (clear hl0 hlr hl hm1 ed hq hb e k2 hm2 hm; omega)
      show some (HO.lst [V.int (((b : Nat) : Int) - 48)]) = _
      rw [this]
      rfl
    · rw [ed, hq]
      rfl
    · intro x hx
      obtain rfl : x = b := by simpa using hx
      exact hdig x hb1 hb2
    · intro me σ H2 h'
      refine bg fun G' g' => ?_
      obtain ⟨q2, ds, rfl, R2, hl2, s2, e2, hds, hdl, hdn, rfl⟩ := h'
      refine g' ?_
      clear g' G'
      obtain ⟨dx2, eo2⟩ := R2.ob
      refine ⟨fun b H' => H' = H2 ∧ b = (decide (ds.length < m) && (tt.drop q2).head?.any Sh27.isDigit), ?_, ?_⟩
      · refine ⟨_, rfl, l, _, rfl, .inl (SqL.of hl2), _, rfl, _, _, rfl, rfl, _, rfl, ite2 (fun h0 => ?_) (fun h0 => ?_)⟩
        · have h0' : ds.length < m := by
            have : (((nI (ds.map (· - 48))).length : Nat) : Int) < ((m : Nat) : Int) := by simpa using h0
            rw [nI_len, List.length_map] at this
            omega
          rw [decide_eq_true h0']
          refine ⟨_, rfl, rd, dx2, _, rfl, eo2, rf_no _ _ (by decide +kernel) (by decide +kernel), rd, a, tt, q2, rfl, R2, _, rfl, ite2 (fun h1 => ?_) (fun h1 => ?_)⟩
          · have hlt : q2 < tt.length := by
              have := R2.le
              have : ¬ q2 = tt.length := by simpa using h1
              (clear h1 h0' h0 eo2 hdn hdl e2 hl2 hl0 hlr hl hm1 hb2 hb1 ed hq hb e k2 hm2 hm; omega)
            have ed2 := List.drop_eq_getElem_cons hlt
            refine bg fun G' g' => ?_
            obtain ⟨g1, _, _⟩ := R2.at ed2
            refine g' ?_
            clear g' G'
            rw [ed2]
            refine ⟨_, rfl, rd, c.Reader, dx2, _, _, rfl, eo2, t.c_Reader.2, t.n_Reader_text, rf_text _ _, _, rfl, rd, c.Reader, dx2, _, _, rfl, eo2, t.c_Reader.2, t.n_Reader_at, rf_at _ _, a, _, _, _, rfl, rfl, R2.tx, atI_of (j := q2) rfl g1, _, _, rfl, rfl, _, rfl, ite2 (fun h2 => ?_) (fun h2 => ?_)⟩
            · have h2' : 48 ≤ tt[q2] := by
                have : (48 : Int) ≤ ((tt[q2] : Nat) : Int) := by simpa using h2
                (clear h2 g1 ed2 hlt h1 h0' h0 eo2 hdn hdl e2 hl2 hl0 hlr hl hm1 hb2 hb1 ed hq hb e k2 hm2 hm; omega)
              refine ⟨_, _, rfl, rfl, _, rfl, rfl, ?_⟩
              show decide (((tt[q2] : Nat) : Int) ≤ 57) = (true && Sh27.isDigit tt[q2])
              unfold Sh27.isDigit
              rw [decide_eq_true h2', Bool.true_and, Bool.true_and, Bool.eq_iff_iff, decide_eq_true_eq, decide_eq_true_eq]
              (clear h2 g1 ed2 hlt h1 h0' h0 eo2 hdn hdl e2 hl2 hl0 hlr hl hm1 hb2 hb1 ed hq hb e k2 hm2 hm; omega)
            · have h2' : ¬ 48 ≤ tt[q2] := by
                have : ¬ (48 : Int) ≤ ((tt[q2] : Nat) : Int) := by simpa using h2
                (clear h2 g1 ed2 hlt h1 h0' h0 eo2 hdn hdl e2 hl2 hl0 hlr hl hm1 hb2 hb1 ed hq hb e k2 hm2 hm; omega)
              refine ⟨_, rfl, rfl, ?_⟩
              show false = (true && Sh27.isDigit tt[q2])
              unfold Sh27.isDigit
              rw [decide_eq_false h2']
              rfl
          · have hend : q2 = tt.length := by simpa using h1
            refine ⟨rfl, ?_⟩
            rw [hend, List.drop_length]
            rfl
        · have h0' : ¬ ds.length < m := by
            have : ¬ (((nI (ds.map (· - 48))).length : Nat) : Int) < ((m : Nat) : Int) := by simpa using h0
            rw [nI_len, List.length_map] at this
            omega
          exact ⟨rfl, by rw [decide_eq_false h0', Bool.false_and]⟩
      · rintro bb H' ⟨rfl, rfl⟩
        refine ite2 (fun h0 => ?_) (fun h0 => ?_)
        · rw [Bool.and_eq_true, decide_eq_true_eq] at h0
          obtain ⟨h1, h2⟩ := h0
          have hlt : q2 < tt.length := by
            rcases Nat.lt_or_ge q2 tt.length with z | z
            · exact z
            · rw [List.drop_of_length_le z] at h2
              exact absurd h2 (by decide)
          have ed2 := List.drop_eq_getElem_cons hlt
          refine bg fun G' g' => ?_
          obtain ⟨g1, g2, g3⟩ := R2.at ed2
          refine g' ?_
          clear g' G'
          rw [ed2] at h2
          have h2' : Sh27.isDigit tt[q2] = true := h2
          have h48 : 48 ≤ tt[q2] := by
            unfold Sh27.isDigit at h2'
            simp only [Bool.and_eq_true, decide_eq_true_eq] at h2'
            exact h2'.1
          refine ⟨fun σ' H'' => ∃ (ds' : List Nat), σ' = [some (.ref rd), some (.int (m : Nat)), some (.ref l)] ∧ Rd1 K c.Reader H'' rd a tt (q2 + 1) ∧ H'' l = some (.lst (nI (ds'.map (· - 48)))) ∧ Same (hide H rd) H'' ∧ tt.drop p = ds' ++ tt.drop (q2 + 1) ∧ (∀ c ∈ ds', Sh27.isDigit c = true) ∧ ds'.length ≤ m ∧ ds' ≠ [], ?_, ?_⟩
          · intro σ' H'' h'
            refine bg fun G' g' => ?_
            obtain ⟨ds', z1, z2, z3, z4, z5, z6, z7, z8⟩ := h'
            refine g' ?_
            clear g' G'
            exact ⟨_, by (clear z8 z7 z5 z3 z1 h48 h2' g2 g1 ed2 h2 h1 eo2 hl2 hdn hdl e2 hl0 hlr hl hm1 hb2 hb1 ed hq hb e k2 hm2 hm; omega), q2 + 1, ds', z1, z2, z3, z4, z5, z6, z7, z8, rfl⟩
          · refine ⟨_, rfl, .inl ⟨rfl, _, SqL.of hl2⟩, ?_⟩
            refine ⟨_, rfl, rd, c.Reader, dx2, _, _, rfl, eo2, t.c_Reader.2, t.n_Reader_text, rf_text _ _, _, rfl, rd, c.Reader, dx2, _, _, rfl, eo2, t.c_Reader.2, t.n_Reader_at, rf_at _ _, a, _, _, _, rfl, rfl, R2.tx, atI_of (j := q2) rfl g1, _, _, rfl, rfl, ?_⟩
            refine ⟨l, _, _, rfl, rfl, hl2, ?_, ?_⟩
            · rw [nI_len, List.length_map]
              exact Nat.lt_of_lt_of_le h1 (Nat.le_trans hm2 (by decide))
            · have e3 : upd H' l (.lst (nI (ds.map (· - 48)) ++ [V.int (((tt[q2] : Nat) : Int) - 48)])) rd = some (.ins c.Reader dx2 (rf a q2)) := by rw [upd_ne (fun z => hlr z.symm)]; exact eo2
              refine ⟨_, rfl, rd, c.Reader, dx2, _, _, rfl, e3, t.c_Reader.2, t.n_Reader_at, rf_at _ _, _, _, rfl, rfl, _, _, e3, rf_len _ _, ?_⟩
              have e4 : putF "at" (V.int (((q2 : Nat) : Int) + 1)) (rf a q2) = rf a (q2 + 1) := rf_put a q2 (q2 + 1)
              rw [e4]
              have sl : Same (hide H rd) (upd H' l (.lst (nI (ds.map (· - 48)) ++ [V.int (((tt[q2] : Nat) : Int) - 48)]))) := fun b o eb => by
                have hbl : b ≠ l := fun z => by
                  subst z
                  rw [hide_ne hlr, hl0] at eb
                  cases eb
                rw [upd_ne hbl]
                exact s2 b o eb
              have hal : SqL K (upd H' l (.lst (nI (ds.map (· - 48)) ++ [V.int (((tt[q2] : Nat) : Int) - 48)]))) a (nI tt) := sq_but R.tx e sl
              refine ⟨ds ++ [tt[q2]], rfl, ?_, ?_, ?_, ?_, ?_, ?_, by simp⟩
              · exact ⟨⟨dx2, upd_same⟩, sq_but R.tx e (same_b sl same_w), g3, R.size⟩
              · rw [upd_ne hlr, upd_same, List.map_append, nI_app]
                have : ((tt[q2] : Nat) : Int) - 48 = ((tt[q2] - 48 : Nat) : Int) := by (clear e4 e3 h2' g2 g1 ed2 h2 hlt h1 eo2 hl2 hdn hdl e2 hl0 hlr hl hm1 hb2 hb1 ed hq hb e k2 hm2 hm; omega)
                show some (HO.lst (_ ++ [V.int (((tt[q2] : Nat) : Int) - 48)])) = _
                rw [this]
                rfl
              · exact same_b sl same_w
              · rw [e2, ed2, List.append_assoc]
                rfl
              · intro x hx
                rcases List.mem_append.mp hx with hx | hx
                · exact hds x hx
                · obtain rfl : x = tt[q2] := by simpa using hx
                  exact h2'
              · rw [List.length_append]
                simp only [List.length_singleton]
                omega
        · have h0' : (decide (ds.length < m) && (tt.drop q2).head?.any Sh27.isDigit) = false := by simpa using h0
          refine ⟨_, rfl, k1 ds (tt.drop q2) ?_ q2 l H' R2 rfl hl0 hl2 s2⟩
          rw [e2]
          exact dig_done hds hdl hdn h0'
end
end S10

set_option Elab.async false
set_option maxRecDepth 100000
set_option linter.all false
namespace S10
open PySem L2 TL Cm
section
variable {P : Program} {w : World} {K : PySem.W.Frag} {mg : Str → Option Value} {base : Heap} {c : Cs}
theorem ok_read_power (t : T K mg c) : GF P w K mg base (CXN P w c.NoSuchText) 4 "read_power" ["reader"] (spPower K c.Reader c.NoSuchText) := by
  refine t.f_read_power.okX sc_read_power (fun vs H Q E h => ?_) (fun f cdv A outer s H vs Q E hr h => ?_)
  · refine bg fun G' g' => ?_
    obtain ⟨rd, a, tt, p, rfl, _⟩ := h
    refine g' ?_
    clear g' G'
    rfl
  · refine bg fun G' g' => ?_
    obtain ⟨rd, a, tt, p, rfl, R, k1, k2⟩ := h
    refine g' ?_
    clear g' G'
    obtain ⟨dx, e⟩ := R.ob
    refine bg fun G' g' => ?_
    obtain ⟨a_MINUS, e_MINUS, m_MINUS⟩ := t.u_MINUS
    refine g' ?_
    clear g' G'
    refine ⟨_, (pss_cons (ps_set (i := 1) sc_read_power.nd rfl (by first | exact Or.inl rfl | exact Or.inr rfl) (pe_cut (pe_methG (pv 0) t.c_Reader.2 (ok_Reader_takes t) hr pass0 (pa_cons (pe_glob (v := .ref a_MINUS) (by rfl) e_MINUS rfl) pa_nil))))
      (pss_cons (ps_set (i := 2) sc_read_power.nd rfl (by first | exact Or.inl rfl | exact Or.inr rfl) (pe_callG (ok_number_of t) hr pass0 (pa_cons (pe_methG (pv 0) t.c_Reader.2 (ok_Reader_digits t) hr pass_on (pa_cons pe_int pa_nil)) pa_nil)))
      (pss_one (ps_ret (pe_cut (pe_ifExp (pt_val (pv 1)) (pe_un un_neg (pv 2)) (pv 2))))))), ?_⟩
    refine ⟨fun v H1 => ∃ (g : Bool) (q : Nat), v = .bl g ∧ Rd1 K c.Reader H1 rd a tt q ∧ Same (hide H rd) H1 ∧ DM.minus (tt.drop p) = (g, tt.drop q), ?_, ?_⟩
    · refine ⟨_, rfl, rd, dx, _, rfl, e, rf_no _ _ (by decide +kernel) (by decide +kernel), rd, a, a_MINUS, tt, [45], p, rfl, R, fun H' => m_MINUS.sq H', by decide, fun r hr' q H1 R1 hq s1 => ⟨true, q, rfl, R1, s1, ?_⟩, fun hn H1 s1 => ⟨false, p, rfl, R.same s1, hide_same.trans s1, ?_⟩⟩
      · unfold DM.minus
        rw [← tk_takeP, hr', hq]
      · unfold DM.minus
        rw [← tk_takeP, hn]
    · intro v H1 h'
      refine bg fun G' g' => ?_
      obtain ⟨g, q, rfl, R1, s1, em⟩ := h'
      refine g' ?_
      clear g' G'
      obtain ⟨dx1, e1⟩ := R1.ob
      have eP : DM.powR (tt.drop p) = (DM.digR 4 (tt.drop q)).map fun x => (if g = true then -(Sh27.natOf x.1 : Int) else (Sh27.natOf x.1 : Int), x.2) := by
        unfold DM.powR
        rw [em]
      refine ⟨_, rfl, rd, dx1, _, rfl, e1, rf_no _ _ (by decide +kernel) (by decide +kernel), rd, a, tt, q, 4, rfl, R1, .inl (by decide), by decide, fun ds r hd q2 l H2 R2 hq2 hl0 hl2 s2 => ?_, fun hn H2 => k2 (by rw [eP, hn]; rfl) H2⟩
      refine ⟨l, ds, rfl, SqL.of hl2, ?_⟩
      refine ⟨fun v H' => H' = H2 ∧ v = .int (if g = true then -(Sh27.natOf ds : Int) else (Sh27.natOf ds : Int)), ?_, ?_⟩
      · refine ⟨_, rfl, g, rfl, ite2 (fun h0 => ?_) (fun h0 => ?_)⟩
        · exact ⟨_, rfl, _, rfl, rfl, by rw [if_pos h0]⟩
        · exact ⟨_, rfl, rfl, by rw [if_neg h0]⟩
      · rintro v H' ⟨rfl, rfl⟩
        exact k1 _ r (by rw [eP, hd]; rfl) q2 H' R2 hq2 (same_b s1 s2)
theorem ok_read_decimal (t : T K mg c) : GF P w K mg base (CXG P w c.TooGreat c.NoSuchText) 5 "read_decimal" ["text"] (spReadDec K c.NoSuchText c.TooGreat) := by
  refine t.f_read_decimal.okX sc_read_decimal (fun vs H Q E h => ?_) (fun f cdv A outer s H vs Q E hr h => ?_)
  · refine bg fun G' g' => ?_
    obtain ⟨a, tt, rfl, _⟩ := h
    refine g' ?_
    clear g' G'
    rfl
  · refine bg fun G' g' => ?_
    obtain ⟨a, tt, rfl, hS, hsz, kN, kG, kY⟩ := h
    refine g' ?_
    clear g' G'
    obtain ⟨t_SIGN, e_SIGN⟩ := t.i_SIGN
    refine bg fun G' g' => ?_
    obtain ⟨a_SMALL_E, e_SMALL_E, m_SMALL_E⟩ := t.u_SMALL_E
    refine g' ?_
    clear g' G'
    refine bg fun G' g' => ?_
    obtain ⟨a_POINT, e_POINT, m_POINT⟩ := t.u_POINT
    refine g' ?_
    clear g' G'
    refine bg fun G' g' => ?_
    obtain ⟨a_MINUS, e_MINUS, m_MINUS⟩ := t.u_MINUS
    refine g' ?_
    clear g' G'
    refine ⟨_, (pss_cons (ps_set (i := 1) sc_read_decimal.nd rfl (by first | exact Or.inl rfl | exact Or.inr rfl) (pe_makeG (ok_Reader_ini t) t.c_Reader.1 hr pass0 (pa_cons (pv 0) pa_nil)))
      (pss_cons (ps_set (i := 2) sc_read_decimal.nd rfl (by first | exact Or.inl rfl | exact Or.inr rfl) (pe_cut (pe_methG (pv 1) t.c_Reader.2 (ok_Reader_takes t) hr pass0 (pa_cons (pe_glob (v := .ref a_MINUS) (by rfl) e_MINUS rfl) pa_nil))))
      (pss_cons (ps_set (i := 3) sc_read_decimal.nd rfl (by first | exact Or.inl rfl | exact Or.inr rfl) (pe_methG (pv 1) t.c_Reader.2 (ok_Reader_digits t) hr pass_inG (pa_cons (pe_callB call_len_seq (by rfl) t.b_len PySem.boot_len (pa_cons (pv 0) pa_nil)) pa_nil)))
      (pss_cons (ps_set (i := 4) sc_read_decimal.nd rfl (by first | exact Or.inl rfl | exact Or.inr rfl) pe_int)
      (pss_cons (ps_cut (ps_if (pt_val (pe_cut (pe_methG (pv 1) t.c_Reader.2 (ok_Reader_takes t) hr pass0 (pa_cons (pe_glob (v := .ref a_POINT) (by rfl) e_POINT rfl) pa_nil)))) (pss_cons (ps_set (i := 5) sc_read_decimal.nd rfl (by first | exact Or.inl rfl | exact Or.inr rfl) (pe_methG (pv 1) t.c_Reader.2 (ok_Reader_digits t) hr pass_inG (pa_cons (pe_callB call_len_seq (by rfl) t.b_len PySem.boot_len (pa_cons (pv 0) pa_nil)) pa_nil)))
      (pss_cons (ps_set (i := 3) sc_read_decimal.nd rfl (by first | exact Or.inl rfl | exact Or.inr rfl) (pe_op op_cat (pv 3) (pv 5)))
      (pss_one (ps_set (i := 4) sc_read_decimal.nd rfl (by first | exact Or.inl rfl | exact Or.inr rfl) (pe_un un_neg (pe_callB call_len_seq (by rfl) t.b_len PySem.boot_len (pa_cons (pv 5) pa_nil))))))) pss_nil))
      (pss_cons (ps_cut (ps_if (pt_val (pe_cut (pe_methG (pv 1) t.c_Reader.2 (ok_Reader_takes t) hr pass0 (pa_cons (pe_glob (v := .ref a_SMALL_E) (by rfl) e_SMALL_E rfl) pa_nil)))) (pss_one (ps_aug (i := 4) sc_read_decimal.nd rfl (by first | exact Or.inl rfl | exact Or.inr rfl) (pe_callG (ok_read_power t) hr pass_inG (pa_cons (pv 1) pa_nil)) iop_add)) pss_nil))
      (pss_cons (ps_if (pt_not (pt_val (pe_methG0 (pv 1) t.c_Reader.2 (ok_Reader_ended t) hr pass0))) (pss_one (ps_raiseG t.x_NoSuchText.2 (by rfl) t.x_NoSuchText.1)) pss_nil)
      (pss_cons (ps_set (i := 6) sc_read_decimal.nd rfl (by first | exact Or.inl rfl | exact Or.inr rfl) (pe_callG (ok_nearest_to_decimal t) hr pass_inGY (pa_cons (pe_callG (ok_number_of t) hr pass0 (pa_cons (pv 3) pa_nil)) (pa_cons (pv 4) pa_nil))))
      (pss_one (ps_ret (pe_cut (pe_ifExp (pt_cut (pw_and (pt_val (pv 2)) (pw_and1 (pt_cmpR op_gt (pv 6) pe_int (nomark _)))).pt) (pe_op op_add (pv 6) (pe_glob (v := .int 9223372036854775808) (by rfl) e_SIGN ⟨t_SIGN, rfl⟩)) (pv 6))))))))))))), ?_⟩
    refine ⟨_, rfl, fun rd dx hrd hdx hne => ?_⟩
    refine ⟨rd, dx, a, rfl, upd_same, fun H1 e1 s1 => ⟨rfl, ?_⟩⟩
    have s0 : Same H (hide (upd (upd H dx (.own rd)) rd (.ins c.Reader dx [])) rd) := fun b o e => by
      have hb1 : b ≠ rd := ne_of_none e hrd
      rw [hide_ne hb1, upd_ne hb1, upd_ne (ne_of_none e hdx)]
      exact e
    have s01 : Same H H1 := s0.trans s1
    have R0 : Rd1 K c.Reader H1 rd a tt 0 := ⟨e1, s01.seq hS, Nat.zero_le _, by omega⟩
    obtain ⟨dx1, e1⟩ := e1
    have go : ∀ {Ha Hb : Hp}, Same H Ha → Same (hide Ha rd) Hb → Same H Hb := fun x y => (hide_none x hrd).trans y
    -- the sign
    refine ⟨fun v H' => ∃ (g : Bool) (q : Nat), v = .bl g ∧ Rd1 K c.Reader H' rd a tt q ∧ Same H H' ∧ DM.minus tt = (g, tt.drop q), ?_, ?_⟩
    · refine ⟨_, rfl, rd, dx1, _, rfl, e1, rf_no _ _ (by decide +kernel) (by decide +kernel), rd, a, a_MINUS, tt, [45], 0, rfl, R0, fun H' => m_MINUS.sq H', by decide, fun r hr' q H2 R2 hq s2 => ⟨true, q, rfl, R2, go s01 s2, ?_⟩, fun hn H2 s2 => ⟨false, 0, rfl, R0.same s2, s01.trans s2, ?_⟩⟩
      · rw [List.drop_zero, tk_takeP] at hr'
        unfold DM.minus
        rw [hr', hq]
      · rw [List.drop_zero, tk_takeP] at hn
        unfold DM.minus
        rw [hn]
        rfl
    · intro v H2 h'
      refine bg fun G' g' => ?_
      obtain ⟨g, q, rfl, R2, s2, em⟩ := h'
      refine g' ?_
      clear g' G'
      obtain ⟨dx2, e2⟩ := R2.ob
      have eD : DM.readD tt = (DM.digR tt.length (tt.drop q)).bind fun x => (DM.fracR tt.length x.1 x.2).bind fun y => (DM.expR y.2.1 y.2.2).bind fun z => if z.2 = [] then some (g, y.1, z.1) else none := by
        unfold DM.readD
        rw [em]
      have hm : ∀ j, 1 ≤ tt.length ∨ tt.drop j = [] := fun j => by
        rcases Nat.eq_zero_or_pos tt.length with z | z
        · right
          rw [List.length_eq_zero_iff.mp z]
          exact List.drop_nil
        · exact .inl z
      -- the digits
      refine ⟨_, rfl, rd, dx2, _, rfl, e2, rf_no _ _ (by decide +kernel) (by decide +kernel), _, rfl, a, _, rfl, .inl R2.tx, rd, a, tt, q, tt.length, by rw [nI_len]; rfl, R2, hm q, by omega, fun ds r hd q3 l H3 R3 hq3 hl0 hl3 s3 => ?_, fun hn H3 => kN (by rw [eD, hn]; rfl) H3⟩
      refine bg fun G' g' => ?_
      obtain ⟨f1, f2, f3⟩ := digR_facts hd
      refine g' ?_
      clear g' G'
      have s03 := go s2 s3
      have hlr : l ≠ rd := fun z => by
        rw [z, e2] at hl0
        cases hl0
      have hlH : H l = none := s2.free hl0
      obtain ⟨dx3, e3⟩ := R3.ob
      rw [hd, ← hq3] at eD
      have eD1 : DM.readD tt = (DM.fracR tt.length ds (tt.drop q3)).bind fun y => (DM.expR y.2.1 y.2.2).bind fun z => if z.2 = [] then some (g, y.1, z.1) else none := eD
      -- behind the point
      refine ⟨fun σ' H' => ∃ (l' : Addr) (ds' : List Nat) (x : Int) (q4 : Nat) (v5 : Option V), σ' = [some (.ref a), some (.ref rd), some (.bl g), some (.ref l'), some (.int x), v5, none] ∧ H' l' = some (.lst (nI (ds'.map (· - 48)))) ∧ Rd1 K c.Reader H' rd a tt q4 ∧ Same H H' ∧ DM.fracR tt.length ds (tt.drop q3) = some (ds', x, tt.drop q4) ∧ (∀ c ∈ ds', Sh27.isDigit c = true) ∧ ds'.length ≤ 64 ∧ -64 ≤ x ∧ x ≤ 0, ?_, ?_⟩
      · refine ⟨fun v H' => ∃ (b : Bool) (q4 : Nat), v = .bl b ∧ Rd1 K c.Reader H' rd a tt q4 ∧ Same (hide H3 rd) H' ∧ DM.tk 46 (tt.drop q3) = (if b = true then some (tt.drop q4) else none) ∧ (b = false → q4 = q3), ?_, ?_⟩
        · refine ⟨_, rfl, rd, dx3, _, rfl, e3, rf_no _ _ (by decide +kernel) (by decide +kernel), rd, a, a_POINT, tt, [46], q3, rfl, R3, fun H' => m_POINT.sq H', by decide, fun r hr' q4 H4 R4 hq s4 => ⟨true, q4, rfl, R4, s4, ?_, fun z => nomatch z⟩, fun hn H4 s4 => ⟨false, q3, rfl, R3.same s4, hide_same.trans s4, ?_, fun _ => rfl⟩⟩
          · rw [tk_takeP] at hr'
            rw [hr', hq]
            rfl
          · rw [tk_takeP] at hn
            rw [hn]
            rfl
        · intro v H4 h'
          refine bg fun G' g' => ?_
          obtain ⟨b, q4, rfl, R4, s4, et, eb⟩ := h'
          refine g' ?_
          clear g' G'
          obtain ⟨dx4, e4⟩ := R4.ob
          have hl4 : H4 l = some (.lst (nI (ds.map (· - 48)))) := s4 _ _ (hide_in hlr hl3)
          refine ⟨_, rfl, ite2 (fun h0 => ?_) (fun h0 => ?_)⟩
          · rw [if_pos h0] at et
            have eF : DM.fracR tt.length ds (tt.drop q3) = (DM.digR tt.length (tt.drop q4)).map fun x => (ds ++ x.1, -(x.1.length : Int), x.2) := by
              unfold DM.fracR
              rw [et]
            refine ⟨_, rfl, rd, dx4, _, rfl, e4, rf_no _ _ (by decide +kernel) (by decide +kernel), _, rfl, a, _, rfl, .inl R4.tx, rd, a, tt, q4, tt.length, by rw [nI_len]; rfl, R4, hm q4, by omega, fun ds2 r2 hd2 q5 l2 H5 R5 hq5 hl20 hl5 s5 => ?_, fun hn H5 => kN (by rw [eD1, eF, hn]; rfl) H5⟩
            refine bg fun G' g' => ?_
            obtain ⟨g1, g2, g3⟩ := digR_facts hd2
            refine g' ?_
            clear g' G'
            have hl5' : H5 l = some (.lst (nI (ds.map (· - 48)))) := s5 _ _ (hide_in hlr hl4)
            have s05 : Same H H5 := go (go s03 s4) s5
            have len1 : ds.length + ds2.length ≤ 64 := by
              have a1 := congrArg List.length f1
              have a2 := congrArg List.length g1
              rw [List.length_append, List.length_drop] at a1 a2
              have a3 : r.length = (tt.drop q3).length := by rw [hq3]
              rw [List.length_drop] at a3
              have a4 : (tt.drop q4).length ≤ (tt.drop q3).length := by
                unfold DM.tk at et
                split at et
                · cases et
                · rename_i x y ey
                  split at et
                  · injection et with et
                    rw [ey, ← et]
                    simp
                  · cases et
              rw [List.length_drop, List.length_drop] at a4
              omega
            refine ⟨_, rfl, _, rfl, l, l2, _, _, rfl, rfl, hl5', hl5, ?_, fun l6 hl6 => ?_⟩
            · rw [nI_len, nI_len, List.length_map, List.length_map]
              exact Nat.le_trans len1 (by decide)
            · have s6 := same_upd (o := .lst (nI (ds.map (· - 48)) ++ nI (ds2.map (· - 48)))) hl6
              refine ⟨_, rfl, l2, _, rfl, .inl (SqL.of (s6 _ _ hl5)), _, rfl, l6, ds ++ ds2, -(ds2.length : Int), q5, some (.ref l2), ?_, ?_, R5.same s6, s05.trans s6, ?_, ?_, ?_, by omega, by omega⟩
              · show [some (V.ref a), some (V.ref rd), some (V.bl g), some (V.ref l6), some (V.int (-(((nI (ds2.map (· - 48))).length : Nat) : Int))), some (V.ref l2), none] = _
                rw [nI_len, List.length_map]
              · rw [upd_same, List.map_append, nI_app]
              · rw [eF, hd2, hq5]
                rfl
              · intro x hx
                rcases List.mem_append.mp hx with hx | hx
                · exact f2 x hx
                · exact g2 x hx
              · rw [List.length_append]
                exact len1
          · have h0' : b = false := by simpa using h0
            rw [if_neg h0] at et
            obtain rfl := eb h0'
            refine ⟨l, ds, 0, q4, none, rfl, hl4, R4, go s03 s4, ?_, f2, by omega, by decide, by decide⟩
            unfold DM.fracR
            rw [et]
      · intro σ' H4 h'
        refine bg fun G' g' => ?_
        obtain ⟨l4, ds4, x, q4, v5, rfl, hl4, R4, s04, eF, f4, f5, x1, x2⟩ := h'
        refine g' ?_
        clear g' G'
        obtain ⟨dx4, e4⟩ := R4.ob
        rw [eF] at eD1
        have eD2 : DM.readD tt = (DM.expR x (tt.drop q4)).bind fun z => if z.2 = [] then some (g, ds4, z.1) else none := eD1
        have hl4r : l4 ≠ rd := fun z => by
          rw [z, e4] at hl4
          cases hl4
        -- the power of ten
        refine ⟨fun σ' H' => ∃ (y : Int) (q5 : Nat), σ' = [some (.ref a), some (.ref rd), some (.bl g), some (.ref l4), some (.int y), v5, none] ∧ H' l4 = some (.lst (nI (ds4.map (· - 48)))) ∧ Rd1 K c.Reader H' rd a tt q5 ∧ Same H H' ∧ DM.expR x (tt.drop q4) = some (y, tt.drop q5) ∧ -20000 ≤ y ∧ y ≤ 20000, ?_, ?_⟩
        · refine ⟨fun v H' => ∃ (b : Bool) (q5 : Nat), v = .bl b ∧ Rd1 K c.Reader H' rd a tt q5 ∧ Same (hide H4 rd) H' ∧ DM.tk 101 (tt.drop q4) = (if b = true then some (tt.drop q5) else none) ∧ (b = false → q5 = q4), ?_, ?_⟩
          · refine ⟨_, rfl, rd, dx4, _, rfl, e4, rf_no _ _ (by decide +kernel) (by decide +kernel), rd, a, a_SMALL_E, tt, [101], q4, rfl, R4, fun H' => m_SMALL_E.sq H', by decide, fun r hr' q5 H5 R5 hq s5 => ⟨true, q5, rfl, R5, s5, ?_, fun z => nomatch z⟩, fun hn H5 s5 => ⟨false, q4, rfl, R4.same s5, hide_same.trans s5, ?_, fun _ => rfl⟩⟩
            · rw [tk_takeP] at hr'
              rw [hr', hq]
              rfl
            · rw [tk_takeP] at hn
              rw [hn]
              rfl
          · intro v H5 h'
            refine bg fun G' g' => ?_
            obtain ⟨b, q5, rfl, R5, s5, et, eb⟩ := h'
            refine g' ?_
            clear g' G'
            have hl5 := s5 _ _ (hide_in hl4r hl4)
            refine ⟨_, rfl, ite2 (fun h0 => ?_) (fun h0 => ?_)⟩
            · rw [if_pos h0] at et
              have eX : DM.expR x (tt.drop q4) = (DM.powR (tt.drop q5)).map fun y => (x + y.1, y.2) := by
                unfold DM.expR
                rw [et]
              refine ⟨_, rfl, _, rfl, rd, a, tt, q5, rfl, R5, fun z r hz q6 H6 R6 hq6 s6 => ?_, fun hn H6 => kN (by rw [eD2, eX, hn]; rfl) H6⟩
              have zb : -10000 ≤ z ∧ z ≤ 10000 := by
                unfold DM.powR at hz
                cases hg : DM.digR 4 (DM.minus (tt.drop q5)).2 with
                | none => rw [hg] at hz; cases hz
                | some w =>
                  rw [hg] at hz
                  injection hz with hz
                  injection hz with hz1 hz2
                  refine bg fun G' g' => ?_
                  obtain ⟨_, w2, w3⟩ := digR_facts (a := w.1) (r := w.2) hg
                  refine g' ?_
                  clear g' G'
                  have w4 := natOf_lt w.1 w2
                  have w5 : 10 ^ w.1.length ≤ 10 ^ 4 := Nat.pow_le_pow_right (by decide) w3
                  have w6 : (10 : Nat) ^ 4 = 10000 := by decide
                  split at hz1 <;> omega
              refine ⟨_, _, rfl, rfl, x + z, q6, rfl, s6 _ _ (hide_in hl4r hl5), R6, go (go s04 s5) s6, ?_, by (clear hq6 hz eX h0 hl5 eb et hl4r eD2 e4 f5 eF hl4 eD1 e3 hlH hlr f3 f1 hl3 hl0 hq3 eD hd e2 em e1 hne hdx hrd e_MINUS e_POINT e_SMALL_E e_SIGN kN hsz; omega), by (clear hq6 hz eX h0 hl5 eb et hl4r eD2 e4 f5 eF hl4 eD1 e3 hlH hlr f3 f1 hl3 hl0 hq3 eD hd e2 em e1 hne hdx hrd e_MINUS e_POINT e_SMALL_E e_SIGN kN hsz; omega)⟩
              rw [eX, hz, hq6]
              rfl
            · have h0' : b = false := by simpa using h0
              rw [if_neg h0] at et
              obtain rfl := eb h0'
              refine ⟨x, q5, rfl, hl5, R5, go s04 s5, ?_, by (clear eb et eD2 e4 eF eD1 h0' h0 hl5 hl4r f5 hl4 e3 hlH hlr f3 f1 hl3 hl0 hq3 eD hd e2 em e1 hne hdx hrd e_MINUS e_POINT e_SMALL_E e_SIGN kN hsz; omega), by (clear eb et eD2 e4 eF eD1 h0' h0 hl5 hl4r f5 hl4 e3 hlH hlr f3 f1 hl3 hl0 hq3 eD hd e2 em e1 hne hdx hrd e_MINUS e_POINT e_SMALL_E e_SIGN kN hsz; omega)⟩
              unfold DM.expR
              rw [et]
        · intro σ' H5 h'
          refine bg fun G' g' => ?_
          obtain ⟨y, q5, rfl, hl5, R5, s05, eX, y1, y2⟩ := h'
          refine g' ?_
          clear g' G'
          obtain ⟨dx5, e5⟩ := R5.ob
          rw [eX] at eD2
          have eD3 : DM.readD tt = if tt.drop q5 = [] then some (g, ds4, y) else none := eD2
          refine ⟨_, rfl, rd, dx5, _, rfl, e5, rf_no _ _ (by decide +kernel) (by decide +kernel), rd, a, tt, q5, rfl, R5, _, rfl, ite2 (fun h0 => ?_) (fun h0 => ?_)⟩
          · have hne' : ¬ q5 = tt.length := by simpa using h0
            refine kN ?_ _
            rw [eD3, if_neg]
            intro z
            have := List.drop_eq_nil_iff.mp z
            have := R5.le
            (clear z h0 eD3 e5 y2 y1 eX hl5 eD2 hl4r e4 x2 x1 f5 eF hl4 eD1 e3 hlH hlr f3 f1 hl3 hl0 hq3 eD hd e2 em e1 hne hdx hrd e_MINUS e_POINT e_SMALL_E e_SIGN kN hsz; omega)
          · have heq : q5 = tt.length := by simpa using h0
            rw [if_pos (by rw [heq, List.drop_length])] at eD3
            refine ⟨_, rfl, l4, ds4, rfl, SqL.of hl5, _, rfl, Sh27.natOf ds4, y, rfl, ?_, y1, y2, fun b hb => ?_, fun hn H6 => kG g ds4 y eD3 hn H6⟩
            · exact Nat.lt_of_lt_of_le (natOf_lt ds4 f4) (Nat.pow_le_pow_right (by decide) (by (clear heq h0 eD3 e5 y2 y1 eX hl5 eD2 hl4r e4 x2 x1 eF hl4 eD1 e3 hlH hlr f3 f1 hl3 hl0 hq3 eD hd e2 em e1 hne hdx hrd e_MINUS e_POINT e_SMALL_E e_SIGN kN hsz; omega)))
            · have K := kY g ds4 y b eD3 hb H5 s05
              refine ⟨fun v H' => H' = H5 ∧ v = .int (decB g b : Nat), ?_, ?_⟩
              · refine ⟨fun bb H' => H' = H5 ∧ bb = decide (g = true ∧ 0 < b), ?_, ?_⟩
                · refine ⟨_, rfl, _, rfl, ite2 (fun h1 => ?_) (fun h1 => ?_)⟩
                  · refine ⟨_, rfl, _, _, rfl, rfl, _, rfl, rfl, ?_⟩
                    rw [Bool.eq_iff_iff]
                    simp only [decide_eq_true_eq]
                    exact ⟨fun z => ⟨h1, by (clear h1 hb heq h0 eD3 e5 y2 y1 eX hl5 eD2 hl4r e4 x2 x1 f5 eF hl4 eD1 e3 hlH hlr f3 f1 hl3 hl0 hq3 eD hd e2 em e1 hne hdx hrd e_MINUS e_POINT e_SMALL_E e_SIGN kN hsz; omega)⟩, fun z => by (clear h1 hb heq h0 eD3 e5 y2 y1 eX hl5 eD2 hl4r e4 x2 x1 f5 eF hl4 eD1 e3 hlH hlr f3 f1 hl3 hl0 hq3 eD hd e2 em e1 hne hdx hrd e_MINUS e_POINT e_SMALL_E e_SIGN kN hsz; omega)⟩
                  · exact ⟨rfl, (decide_eq_false (fun z => h1 z.1)).symm⟩
                · rintro bb H' ⟨rfl, rfl⟩
                  unfold decB
                  refine ite2 (fun h1 => ?_) (fun h1 => ?_)
                  · have h1' := of_decide_eq_true h1
                    refine ⟨_, rfl, _, _, rfl, rfl, rfl, ?_⟩
                    rw [if_pos h1', Int.natCast_add]
                    rfl
                  · have h1' : ¬ (g = true ∧ 0 < b) := by simpa using h1
                    exact ⟨_, rfl, rfl, by rw [if_neg h1']⟩
              · rintro v H' ⟨rfl, rfl⟩
                exact K
end
end S10

set_option Elab.async false
set_option maxRecDepth 100000
set_option linter.all false
namespace S10
open PySem L2 TL Cm
section
variable {P : Program} {w : World} {K : PySem.W.Frag} {mg : Str → Option Value} {base : Heap} {c : Cs}
open Ut in
theorem ok_parted (t : T K mg c) : GF P w K mg base CX0 1 "parted" ["text", "mark"] (Ut.spParted K) := by
  refine t.f_parted.ok sc_parted (fun vs H Q E h => ?_) (fun f cdv A outer s H vs Q E hr h => ?_)
  · refine bg fun G' g' => ?_
    obtain ⟨a, tt, ch, rfl, _⟩ := h
    refine g' ?_
    clear g' G'
    rfl
  · refine bg fun G' g' => ?_
    obtain ⟨a, tt, ch, rfl, hS, hsz, k⟩ := h
    refine g' ?_
    clear g' G'
    refine ⟨_, (pss_cons (ps_set (i := 2) sc_parted.nd rfl (by first | exact Or.inl rfl | exact Or.inr rfl) (pe_lst pa_nil))
      (pss_cons (ps_set (i := 3) sc_parted.nd rfl (by first | exact Or.inl rfl | exact Or.inr rfl) (pe_lst pa_nil))
      (pss_cons (ps_for PassesOwn.never rfl (pi_list (pv 0)) (pg_name (i := 4) sc_parted.nd rfl (by first | exact Or.inl rfl | exact Or.inr rfl)) (pss_one (ps_if (pt_cmpR op_eq (pv 4) (pv 1) (nomark _)) (pss_cons (ps_expr (pe_bm PySem.F.plainAttrs_list PySem.F.slot_list_append PySem.F.type_list_append mt_append (pv 2) (pa_cons (pv 3) pa_nil)))
      (pss_one (ps_set (i := 3) sc_parted.nd rfl (by first | exact Or.inl rfl | exact Or.inr rfl) (pe_lst pa_nil)))) (pss_one (ps_expr (pe_bm PySem.F.plainAttrs_list PySem.F.slot_list_append PySem.F.type_list_append mt_append (pv 3) (pa_cons (pv 4) pa_nil)))))))
      (pss_cons (ps_expr (pe_bm PySem.F.plainAttrs_list PySem.F.slot_list_append PySem.F.type_list_append mt_append (pv 2) (pa_cons (pv 3) pa_nil)))
      (pss_one (ps_ret (pv 2))))))), ?_⟩
    refine ⟨(by show 0 ≤ sizeLine; decide), fun l hl => ⟨(by show 0 ≤ sizeLine; decide), fun p0 hp0 => ?_⟩⟩
    have s0 : Same H (upd H l (.lst [])) := same_upd hl
    have s1 := s0.trans (same_upd (o := .lst []) hp0)
    have np0 : l ≠ p0 := fun z => by
      rw [← z, upd_same] at hp0
      cases hp0
    refine ⟨_, rfl, a, rfl, ⟨_, s1.seq hS⟩, for_list (K := K) (a := a) (xs := nI tt) (fun i σ H' => ∃ (v : Option V) (pa : Addr) (bs : List Addr) (ps : List (List Nat)) (p : List Nat), σ = [some (.ref a), some (.int (ch : Nat)), some (.ref l), some (.ref pa), v] ∧ Same H H' ∧ H' l = some (.lst (bs.map V.ref)) ∧ H' pa = some (.lst (nI p)) ∧ H pa = none ∧ pa ≠ l ∧ LLN H l (hide H' pa) bs ps ∧ Sh27.split ch (tt.take i) = ps ++ [p])
      ⟨none, p0, [], [], [], rfl, s1, (upd_ne np0).trans upd_same, upd_same, s0.free hp0, np0.symm, ⟨rfl, fun j b x e1 _ => by simp at e1⟩, by rw [List.take_zero]; rfl⟩ (fun i σ H' _ ⟨_, _, _, _, _, _, e, _⟩ => e.seq hS) ?_ ?_⟩
    · intro i y σ H1 hi h'
      refine bg fun G' g' => ?_
      obtain ⟨v, pa, bs, ps, p, rfl, sH, hl1, hp1, hpH, npl, LL, es⟩ := h'
      refine g' ?_
      clear g' G'
      refine bg fun G' g' => ?_
      obtain ⟨x, rfl, hx⟩ := nI_get hi
      refine g' ?_
      clear g' G'
      have hlt : i < tt.length := (List.getElem?_eq_some_iff.mp hx).1
      have hsum := split_sum ch (tt.take i)
      rw [es] at hsum
      have htl : (tt.take i).length ≤ 1000000 := by rw [List.length_take]; (clear hsum hi hx es npl hpH hp1 hl1 np0 hp0 hl; omega)
      simp only [List.length_append, List.map_append, List.sum_append, List.map_cons, List.map_nil, List.sum_cons, List.sum_nil, List.length_singleton] at hsum
      have hbl : bs.length = ps.length := LL.len
      have ett : tt.take (i + 1) = tt.take i ++ [x] := by rw [List.take_add_one, hx]; rfl
      refine ⟨_, rfl, _, rfl, rfl, _, rfl, ite2 (fun h0 => ?_) (fun h0 => ?_)⟩
      · have h0' : x = ch := by
          have : (x : Int) = (ch : Int) := by simpa using h0
          (clear h0 ett hbl hsum htl hlt hi hx es npl hpH hp1 hl1 np0 hp0 hl hsz; omega)
        refine ⟨_, rfl, .inl ⟨rfl, _, SqL.of hl1⟩, _, rfl, l, _, _, rfl, rfl, hl1, ?_, ?_⟩
        · rw [List.length_map, hbl]
          exact Nat.lt_of_le_of_lt (show _ ≤ 1000002 by (clear h0' h0 ett hlt hi hx es npl hpH hp1 hl1 np0 hp0 hl hsz; omega)) (by decide)
        refine ⟨(by show 0 ≤ sizeLine; decide), fun p2 hp2 => ?_⟩
        have sU : Same H (upd H1 l (.lst (bs.map V.ref ++ [.ref pa]))) := same_keep sH hl
        have sV := sU.trans (same_upd (o := .lst []) hp2)
        have n2l : p2 ≠ l := fun z => by
          rw [z, upd_same] at hp2
          cases hp2
        have n2p : pa ≠ p2 := fun z => by
          rw [← z, upd_ne npl, hp1] at hp2
          cases hp2
        refine ⟨some (.int (x : Nat)), p2, bs ++ [pa], ps ++ [p], [], rfl, sV, ?_, upd_same, sU.free hp2, n2l, ?_, ?_⟩
        · rw [upd_ne n2l.symm, upd_same, List.map_append]
          rfl
        · refine LLN.snoc (LL.same fun b o e => ?_) hpH npl ?_
          · obtain ⟨q1, q2⟩ := Ut.hide_out e
            obtain ⟨q3, q4⟩ := Ut.hide_out q2
            have q5 : b ≠ p2 := fun z => by
              rw [← z, upd_ne q1, q4] at hp2
              cases hp2
            rw [hide_ne q5, upd_ne q5, upd_ne q1]
            exact q4
          · rw [hide_ne n2p, upd_ne n2p, upd_ne npl]
            exact hp1
        · rw [ett, h0', split_snoc_yes, es]
      · have h0' : x ≠ ch := by
          have : ¬ (x : Int) = (ch : Int) := by simpa using h0
          (clear h0 ett hbl hsum htl hlt hi hx es npl hpH hp1 hl1 np0 hp0 hl hsz; omega)
        refine ⟨_, rfl, .inl ⟨rfl, _, SqL.of hp1⟩, _, rfl, pa, _, _, rfl, rfl, hp1, ?_, ?_⟩
        · rw [nI_len]
          exact Nat.lt_of_le_of_lt (show _ ≤ 1000002 by (clear h0' h0 ett hlt hi hx es npl hpH hp1 hl1 np0 hp0 hl hsz; omega)) (by decide)
        refine ⟨some (.int (x : Nat)), pa, bs, ps, p ++ [x], rfl, same_keep sH hpH, ?_, ?_, hpH, npl, ?_, ?_⟩
        · rw [upd_ne npl.symm]
          exact hl1
        · rw [upd_same, nI_app]
          rfl
        · rw [hide_upd]
          exact LL
        · rw [ett, split_snoc_no _ h0' es]
    · intro σ H1 h'
      refine bg fun G' g' => ?_
      obtain ⟨v, pa, bs, ps, p, rfl, sH, hl1, hp1, hpH, npl, LL, es⟩ := h'
      refine g' ?_
      clear g' G'
      rw [nI_len, List.take_length] at es
      have hsum := split_sum ch tt
      rw [es] at hsum
      simp only [List.length_append, List.map_append, List.sum_append, List.map_cons, List.map_nil, List.sum_cons, List.sum_nil, List.length_singleton] at hsum
      have hbl : bs.length = ps.length := LL.len
      refine ⟨_, rfl, .inl ⟨rfl, _, SqL.of hl1⟩, _, rfl, l, _, _, rfl, rfl, hl1, ?_, ?_⟩
      · rw [List.length_map, hbl]
        exact Nat.lt_of_le_of_lt (show _ ≤ 1000002 by omega) (by decide)
      refine ⟨_, rfl, k l _ (bs ++ [pa]) hl (by rw [upd_same, List.map_append]; rfl) ?_ (same_keep sH hl)⟩
      rw [es]
      refine LLN.snoc (LL.same fun b o e => ?_) hpH npl ?_
      · obtain ⟨q1, q2⟩ := Ut.hide_out e
        rw [upd_ne q1]
        exact (Ut.hide_out q2).2
      · rw [upd_ne npl]
        exact hp1
open Ut in
theorem ok_words_of (t : T K mg c) : GF P w K mg base CX0 2 "words_of" ["row"] (Ut.spWords K) := by
  refine t.f_words_of.ok sc_words_of (fun vs H Q E h => ?_) (fun f cdv A outer s H vs Q E hr h => ?_)
  · refine bg fun G' g' => ?_
    obtain ⟨a, tt, rfl, _⟩ := h
    refine g' ?_
    clear g' G'
    rfl
  · refine bg fun G' g' => ?_
    obtain ⟨a, tt, rfl, hS, hsz, k⟩ := h
    refine g' ?_
    clear g' G'
    obtain ⟨t_BLANK, e_BLANK⟩ := t.i_BLANK
    have hu := hr.units
    refine ⟨_, (pss_one (ps_ret (pe_lc rfl sc_words_of.nd (pi_list (pe_callG (ok_parted t) hr pass0 (pa_cons (pv 0) (pa_cons (pe_glob (v := .int 32) (by rfl) e_BLANK ⟨t_BLANK, rfl⟩) pa_nil)))) (blkOk_by (own := [("word", 1)]) (show blkC ["row", "word"] (defScope s_words_of) _ _ = true by decide +kernel)) (fun _ _ _ _ _ => pg_name (i := 1) sc_words_of.nd rfl (by first | exact Or.inl rfl | exact Or.inr rfl)) (fun _ _ _ _ _ => (pts_one (pt_cmpR (r := rNeD K) (op_neD hu) (pv 1) (pe_lst pa_nil) (nomark _)))) (fun _ _ _ _ _ => (pv 1))))), ?_⟩
    have hsum := split_sum 32 tt
    refine ⟨_, rfl, a, tt, 32, rfl, hS, hsz, fun l H1 bs hl0 hl1 LL s1 => ?_⟩
    generalize hps : Sh27.split 32 tt = ps at LL hsum
    have hbl : bs.length = ps.length := LL.len
    have ewd : Sh27.words tt = ps.filter fun w => !w.isEmpty := by rw [words_def, hps]
    refine ⟨l, rfl, ⟨_, SqL.of hl1⟩, fun D hD => lc_list (K := K) (a := l) (xs := bs.map V.ref) (fun i H' => ∃ cs : List Addr, H' D = some (.lst (cs.map V.ref)) ∧ Same H1 H' ∧ LLN H D H' cs ((ps.take i).filter fun w => !w.isEmpty))
      ⟨[], upd_same, same_upd hD, ⟨rfl, fun j b q e1 _ => by simp at e1⟩⟩ (fun i H' _ ⟨_, _, e, _⟩ => SqL.of (e _ _ hl1)) ?_ ?_⟩
    · intro i y H' hi h'
      refine bg fun G' g' => ?_
      obtain ⟨cs, hD', s', LC⟩ := h'
      refine g' ?_
      clear g' G'
      refine bg fun G' g' => ?_
      obtain ⟨d, rfl, hd⟩ := Tb.refs_get hi
      refine g' ?_
      clear g' G'
      have hib : i < bs.length := (List.getElem?_eq_some_iff.mp hd).1
      have hip : i < ps.length := by (clear hi hd hD' hD ewd hsum hps hl1 hl0 hu e_BLANK hsz; omega)
      refine bg fun G' g' => ?_
      obtain ⟨d0, d1, d2⟩ := LL.at_ i d ps[i] hd (List.getElem?_eq_getElem hip)
      refine g' ?_
      clear g' G'
      have d3 := s' _ _ d2
      have hcl : cs.length ≤ ps.length := by
        rw [LC.len]
        exact Nat.le_trans (List.length_filter_le _ _) (by rw [List.length_take]; (clear d3 d2 d1 d0 hip hi hd hD' hD ewd hsum hps hl1 hl0 hu e_BLANK hsz; omega))
      have etk : ps.take (i + 1) = ps.take i ++ [ps[i]] := by rw [List.take_add_one, List.getElem?_eq_getElem hip]; rfl
      have ndD : d ≠ D := fun z => by
        rw [z, hD] at d2
        cases d2
      refine ⟨rfl, _, rfl, (by show 0 ≤ sizeLine; decide), fun z hz => ?_⟩
      have sz := same_upd (o := .lst []) hz
      refine ⟨_, _, .lst (SqL.of (sz _ _ d3)) (dpAll_n _), .lst (SqL.of upd_same) .nil, shaped_n _, Tb.shapedNil, _, rfl, ?_⟩
      rw [Tb.eqvNil]
      have nzD : D ≠ z := fun q => by
        rw [← q, hD'] at hz
        cases hz
      refine ite2 (fun h0 => ?_) (fun h0 => ?_)
      · have h0' : (!(ps[i]).isEmpty) = true := by
          cases e : ps[i] with
          | nil => rw [e] at h0; exact absurd h0 (by decide)
          | cons x r => rfl
        refine ⟨_, rfl, _, (upd_ne nzD).trans hD', ?_, cs ++ [d], by rw [upd_same, List.map_append]; rfl, same_keep (s'.trans sz) hD, ?_⟩
        · rw [List.length_map]
          exact Nat.lt_of_le_of_lt (show _ ≤ 1000002 by (clear h0' h0 nzD hz ndD etk d3 d2 d1 d0 hip hib hi hd hD' hD ewd hps hl1 hl0 hu e_BLANK; omega)) (by decide)
        · rw [etk, List.filter_append, List.filter_cons_of_pos (p := fun (w : List Nat) => !w.isEmpty) h0', List.filter_nil]
          refine LLN.snoc (LC.same fun b o e => ?_) d0 ndD ?_
          · obtain ⟨q1, q2⟩ := Ut.hide_out e
            rw [upd_ne q1]
            exact sz _ _ q2
          · rw [upd_ne ndD]
            exact sz _ _ d3
      · have h0' : ¬ (!(ps[i]).isEmpty) = true := by
          cases e : ps[i] with
          | nil => simp
          | cons x r => rw [e] at h0; exact absurd rfl h0
        refine ⟨cs, (upd_ne nzD).trans hD', s'.trans sz, ?_⟩
        rw [etk, List.filter_append, List.filter_cons_of_neg (p := fun (w : List Nat) => !w.isEmpty) h0', List.filter_nil, List.append_nil]
        exact LC.same fun b o e => sz _ _ (Ut.hide_out e).2
    · intro H2 h'
      refine bg fun G' g' => ?_
      obtain ⟨cs, hD2, s2, LC⟩ := h'
      refine g' ?_
      clear g' G'
      rw [List.length_map, hbl, List.take_length, ← ewd] at LC
      exact k D H2 cs (s1.free hD) hD2 LC (s1.trans s2)
open Ut in
theorem ok_read_number (t : T K mg c) (hne : c.TooGreat ≠ c.NoSuchText) : GF P w K mg base (CXN P w c.NoSuchText) 6 "read_number" ["word"] (Ut.spReadNum K c.NoSuchText) := by
  refine t.f_read_number.okX sc_read_number (fun vs H Q E h => ?_) (fun f cdv A outer s H vs Q E hr h => ?_)
  · refine bg fun G' g' => ?_
    obtain ⟨a, tt, rfl, _⟩ := h
    refine g' ?_
    clear g' G'
    rfl
  · refine bg fun G' g' => ?_
    obtain ⟨a, tt, rfl, hS, k1, k2⟩ := h
    refine g' ?_
    clear g' G'
    obtain ⟨t_M, e_M⟩ := t.i_MOST_BYTES_OF_A_NUMBER
    refine ⟨_, pss_cons (ps_if (pt_cmpR op_gt (pe_callB call_len_seq (by rfl) t.b_len PySem.boot_len (pa_cons (pv 0) pa_nil)) (pe_glob (v := .int 64) (by rfl) e_M ⟨t_M, rfl⟩) (nomark _)) (pss_one (ps_raise t.x_NoSuchText.2 (by rfl) t.x_NoSuchText.1)) pss_nil)
      (pss_cons (ps_tryR t.x_TooGreat.2 t.x_NoSuchText.2 hne.symm (by rfl) t.x_TooGreat.1 (by rfl) t.x_NoSuchText.1 rfl rfl pass_onH
          (fun EX pn E' pass => pss_one (ps_set (i := 1) sc_read_number.nd rfl (by first | exact Or.inl rfl | exact Or.inr rfl) (pe_callG (ok_read_decimal t) hr pass (pa_cons (pv 0) pa_nil)))))
        (pss_one (ps_ret (pv 1)))), ?_⟩
    refine ⟨_, rfl, a, _, rfl, .inl hS, _, _, rfl, rfl, _, rfl, ite2 (fun h0 => ?_) (fun h0 => ?_)⟩
    · have h0' : ¬ tt.length ≤ 64 := by
        have : (64 : Int) < ((nI tt).length : Nat) := by simpa using h0
        rw [nI_len] at this
        omega
      exact k2 (numR_long h0') _
    · have h0' : tt.length ≤ 64 := by
        have : ¬ (64 : Int) < ((nI tt).length : Nat) := by simpa using h0
        rw [nI_len] at this
        omega
      refine ⟨_, rfl, a, tt, rfl, hS, h0', fun hn H' => k2 (numR_no hn) _, fun g ds x hr' hd H' => k2 (numR_great hr' hd) _, fun g ds x b hr' hd H' s' => ?_⟩
      exact ⟨_, rfl, k1 _ (numR_yes h0' hr' hd) H' s'⟩
end
end S10

set_option Elab.async false
set_option maxRecDepth 100000
set_option linter.all false
namespace S10
open PySem L2 TL Cm
section
variable {P : Program} {w : World} {K : PySem.W.Frag} {mg : Str → Option Value} {base : Heap} {c : Cs}
open Ut in
theorem ok_read_numbers (t : T K mg c) (hne : c.TooGreat ≠ c.NoSuchText) : GF P w K mg base (CXN P w c.NoSuchText) 7 "read_numbers" ["words", "columns"] (Ut.spReadNums K c.NoSuchText) := by
  have GN := ok_read_number (P := P) (w := w) (base := base) t hne
  refine t.f_read_numbers.okX sc_read_numbers (fun vs H Q E h => ?_) (fun f cdv A outer s H vs Q E hr h => ?_)
  · refine bg fun G' g' => ?_
    obtain ⟨a, n, as, xs, rfl, _⟩ := h
    refine g' ?_
    clear g' G'
    rfl
  · refine bg fun G' g' => ?_
    obtain ⟨a, n, as, xs, rfl, hS, L, hsz, k1, k2⟩ := h
    refine g' ?_
    clear g' G'
    refine ⟨_, (pss_cons (ps_if (pt_cmpR op_ne (pe_callB call_len_seq (by rfl) t.b_len PySem.boot_len (pa_cons (pv 0) pa_nil)) (pv 1) (nomark _)) (pss_one (ps_raise t.x_NoSuchText.2 (by rfl) t.x_NoSuchText.1)) pss_nil)
      (pss_one (ps_ret (pe_lcX rfl sc_read_numbers.nd rfl rfl pass_onH (pi_list (pv 0)) (blkOk_by (own := [("word", 2)]) (show blkC ["words", "columns", "word"] (defScope s_read_numbers) _ _ = true by decide +kernel)) (fun _ _ _ _ _ => pg_name (i := 2) sc_read_numbers.nd rfl (by first | exact Or.inl rfl | exact Or.inr rfl)) (fun _ _ _ _ _ => pts_nil) (fun _ _ _ _ _ _ _ pass => (pe_callG GN hr pass (pa_cons (pv 2) pa_nil))))))), ?_⟩
    have hal : as.length = xs.length := L.len
    refine ⟨_, rfl, a, _, rfl, .inl hS, _, rfl, rfl, _, rfl, ite2 (fun h0 => ?_) (fun h0 => ?_)⟩
    · have h0' : xs.length ≠ n := by
        intro z
        rw [List.length_map, hal, z] at h0
        simp at h0
      exact k2 (if_neg h0') _
    · have h0' : xs.length = n := by
        rw [List.length_map, hal] at h0
        have : ((xs.length : Nat) : Int) = ((n : Nat) : Int) := by simpa using h0
        (clear h0 k2 hsz hne; omega)
      have en : numsR n xs = allR numR xs := if_pos h0'
      rw [en] at k1 k2
      refine ⟨_, rfl, a, rfl, ⟨_, hS⟩, fun D hD => lc_list (K := K) (a := a) (xs := as.map V.ref) (fun i H' => ∃ ys, allR numR (xs.take i) = some ys ∧ H' D = some (.lst (nI ys)) ∧ Same H H')
        ⟨[], rfl, upd_same, same_upd hD⟩ (fun i H' _ ⟨_, _, _, e⟩ => e.seq hS) ?_ ?_⟩
      · intro i y H' hi h'
        refine bg fun G' g' => ?_
        obtain ⟨ys, hys, hD', s'⟩ := h'
        refine g' ?_
        clear g' G'
        refine bg fun G' g' => ?_
        obtain ⟨d, rfl, hd⟩ := Tb.refs_get hi
        refine g' ?_
        clear g' G'
        refine bg fun G' g' => ?_
        obtain ⟨x, hx, hR⟩ := L.get hd
        refine g' ?_
        clear g' G'
        have hyl : ys.length = i := by
          rw [allR_len hys, List.length_take]
          have := (List.getElem?_eq_some_iff.mp hx).1
          (clear hx hi hd hD' hys hD en h0 k2 hsz hne; omega)
        have hil : i < xs.length := (List.getElem?_eq_some_iff.mp hx).1
        have etk : xs.take (i + 1) = xs.take i ++ [x] := by rw [List.take_add_one, hx]; rfl
        refine ⟨rfl, yesT ?_⟩
        refine ⟨_, rfl, d, x, rfl, (hR.same s').sq, fun b hb H2 s2 => ?_, fun hn H2 => k2 (allR_none (List.mem_of_getElem? hx) hn) H2⟩
        refine ⟨_, s2 _ _ hD', ?_, ys ++ [b], ?_, ?_, same_keep (s'.trans s2) hD⟩
        · rw [nI_len, hyl]
          exact Nat.lt_of_le_of_lt (show _ ≤ 1000001 by omega) (by decide)
        · rw [etk, allR_snoc, hys]
          simp only [Option.bind_some]
          rw [hb]
          rfl
        · rw [upd_same, nI_app]
          rfl
      · intro H2 h'
        refine bg fun G' g' => ?_
        obtain ⟨ys, hys, hD2, s2⟩ := h'
        refine g' ?_
        clear g' G'
        rw [List.length_map, hal, List.take_length] at hys
        exact k1 ys hys D H2 hD hD2 s2
open Ut in
theorem ok_read_table (t : T K mg c) (hne : c.TooGreat ≠ c.NoSuchText) : GF P w K mg base (CXN P w c.NoSuchText) 8 "read_table" ["text"] (spReadL Ut.readT K c.NoSuchText) := by
  have GN := ok_read_numbers (P := P) (w := w) (base := base) t hne
  refine t.f_read_table.okX sc_read_table (fun vs H Q E h => ?_) (fun f cdv A outer s H vs Q E hr h => ?_)
  · refine bg fun G' g' => ?_
    obtain ⟨a, tt, rfl, _⟩ := h
    refine g' ?_
    clear g' G'
    rfl
  · refine bg fun G' g' => ?_
    obtain ⟨a, tt, rfl, hS, hsz, k1, k2⟩ := h
    refine g' ?_
    clear g' G'
    obtain ⟨t_MOST_TABLE_LINES, e_MOST_TABLE_LINES⟩ := t.i_MOST_TABLE_LINES
    obtain ⟨t_LINE_FEED, e_LINE_FEED⟩ := t.i_LINE_FEED
    have hu := hr.units
    refine ⟨_, (pss_cons (ps_set (i := 1) sc_read_table.nd rfl (by first | exact Or.inl rfl | exact Or.inr rfl) (pe_callG (ok_parted t) hr pass0 (pa_cons (pv 0) (pa_cons (pe_glob (v := .int 10) (by rfl) e_LINE_FEED ⟨t_LINE_FEED, rfl⟩) pa_nil))))
      (pss_cons (ps_if (pt_not (pt_cut (pt_chain op_le op_le pe_int (pe_callB call_len_seq (by rfl) t.b_len PySem.boot_len (pa_cons (pv 1) pa_nil)) (pe_op op_add (pe_glob (v := .int 256) (by rfl) e_MOST_TABLE_LINES ⟨t_MOST_TABLE_LINES, rfl⟩) pe_int)))) (pss_one (ps_raise t.x_NoSuchText.2 (by rfl) t.x_NoSuchText.1)) pss_nil)
      (pss_cons (ps_set (i := 2) sc_read_table.nd rfl (by first | exact Or.inl rfl | exact Or.inr rfl) (pe_callG (ok_words_of t) hr pass0 (pa_cons (pe_ix ix_list (pv 1) pe_int (fun _ _ => rfl)) pa_nil)))
      (pss_cons (ps_if (pt_not (pt_val (pe_callG (ok_are_names t) hr pass0 (pa_cons (pv 2) pa_nil)))) (pss_one (ps_raise t.x_NoSuchText.2 (by rfl) t.x_NoSuchText.1)) pss_nil)
      (pss_cons (ps_setLcX (i := 3) rfl sc_read_table.nd rfl rfl pass_onH rfl rfl (sw_true rfl rfl rfl (by decide +kernel)) (pi_list (pe_slice sl_list (pv 1) (po_some pe_int) (po_some (pe_un un_neg pe_int)))) (blkOk_by (own := [("row", 7)]) (show blkC ["text", "rows", "names", "lines", "told", "name", "line", "row"] (defScope s_read_table) _ _ = true by decide +kernel)) (fun _ _ _ _ _ => pg_name (i := 7) sc_read_table.nd rfl (by first | exact Or.inl rfl | exact Or.inr rfl)) (fun _ _ _ _ _ => pts_nil) (fun _ _ _ _ _ _ _ pass => (pe_callG GN hr pass (pa_cons (pe_callG (ok_words_of t) hr pass0 (pa_cons (pv 7) pa_nil)) (pa_cons (pe_callB (r := rLenS K) call_lenS (by rfl) t.b_len PySem.boot_len (pa_cons (pv 2) pa_nil)) pa_nil)))))
      (pss_cons (ps_if (pt_cmpR (op_neD hu) (pe_callG (ok_tell_table t) hr pass0 (pa_cons (pv 2) (pa_cons (pv 3) pa_nil))) (pv 0) (nomark _)) (pss_one (ps_raise t.x_NoSuchText.2 (by rfl) t.x_NoSuchText.1)) pss_nil)
      (pss_cons (ps_set (i := 4) sc_read_table.nd rfl (by first | exact Or.inl rfl | exact Or.inr rfl) (pe_lst (pa_cons (pe_callB call_len_seq (by rfl) t.b_len PySem.boot_len (pa_cons (pv 2) pa_nil)) (pa_cons (pe_callB call_len_seq (by rfl) t.b_len PySem.boot_len (pa_cons (pv 3) pa_nil)) pa_nil))))
      (pss_cons (ps_for PassesOwn.leaving rfl (pi_list (pv 2)) (pg_name (i := 5) sc_read_table.nd rfl (by first | exact Or.inl rfl | exact Or.inr rfl)) (pss_one (ps_expr (pe_bm PySem.F.plainAttrs_list PySem.F.slot_list_extend PySem.F.type_list_extend mt_extend (pv 4) (pa_cons (pe_op op_cat (pe_lst (pa_cons (pe_callB call_len_seq (by rfl) t.b_len PySem.boot_len (pa_cons (pv 5) pa_nil)) pa_nil)) (pv 5)) pa_nil)))))
      (pss_cons (ps_for PassesOwn.leaving rfl (pi_list (pv 3)) (pg_name (i := 6) sc_read_table.nd rfl (by first | exact Or.inl rfl | exact Or.inr rfl)) (pss_one (ps_expr (pe_bm PySem.F.plainAttrs_list PySem.F.slot_list_extend PySem.F.type_list_extend mt_extend (pv 4) (pa_cons (pv 6) pa_nil)))))
      (pss_one (ps_ret (pv 4)))))))))))), ?_⟩
    have hsum := split_sum 10 tt
    refine ⟨_, rfl, a, tt, 10, rfl, hS, by omega, fun l1 H1 bs hl10 hl1 LL1 s1 => ?_⟩
    unfold readT rowsR at k1 k2
    generalize hps : Sh27.split 10 tt = ps at LL1 hsum k1 k2
    have hbl : bs.length = ps.length := LL1.len
    refine ⟨fun b H' => H1 = H' ∧ b = decide (3 ≤ ps.length ∧ ps.length ≤ 259), ?_, ?_⟩
    · refine ⟨_, rfl, l1, _, rfl, .inl (SqL.of hl1), _, _, rfl, rfl, _, rfl, ite2 (fun h0 => ?_) (fun h0 => ?_)⟩
      · rw [List.length_map, hbl] at h0 ⊢
        refine ⟨_, _, rfl, rfl, _, _, rfl, rfl, _, rfl, rfl, ?_⟩
        rw [Bool.eq_iff_iff]
        simp only [decide_eq_true_eq] at h0 ⊢
        (clear k2 hsum hps hl1 hl10 hu e_LINE_FEED e_MOST_TABLE_LINES hsz hne; omega)
      · rw [List.length_map, hbl] at h0
        refine ⟨_, rfl, rfl, ?_⟩
        simp only [decide_eq_true_eq] at h0
        symm
        apply decide_eq_false
        (clear k2 hsum hps hl1 hl10 hu e_LINE_FEED e_MOST_TABLE_LINES hsz hne; omega)
    · rintro b H' ⟨rfl, rfl⟩
      refine ite2 (fun h0 => ?_) (fun h0 => ?_)
      · have h0' : ¬ (3 ≤ ps.length ∧ ps.length ≤ 259) := fun z => by
          rw [decide_eq_true z] at h0
          exact absurd h0 (by decide)
        rw [if_neg h0'] at k2
        exact k2 rfl _
      · have h0' : 3 ≤ ps.length ∧ ps.length ≤ 259 := by
          have := h0
          simp only [Bool.not_eq_true', decide_eq_false_iff_not, Classical.not_not] at this
          exact this
        rw [if_pos h0'] at k1 k2
        obtain ⟨g1, g2⟩ := h0'
        obtain ⟨p0, hp0⟩ : ∃ p0, ps[0]? = some p0 := ⟨ps[0], List.getElem?_eq_getElem (by (clear h0 k2 hsum hps hl1 hl10 hu e_LINE_FEED e_MOST_TABLE_LINES hsz hne; omega))⟩
        obtain ⟨b0, hb0⟩ : ∃ b0, bs[0]? = some b0 := ⟨bs[0]'(by (clear hp0 h0 k2 hsum hps hl1 hl10 hu e_LINE_FEED e_MOST_TABLE_LINES hsz hne; omega)), List.getElem?_eq_getElem (by (clear hp0 h0 k2 hsum hps hl1 hl10 hu e_LINE_FEED e_MOST_TABLE_LINES hsz hne; omega))⟩
        have eg : ps.getD 0 [] = p0 := by rw [List.getD_eq_getElem?_getD, hp0]; rfl
        rw [eg] at k1 k2
        have hpl : ∀ p ∈ ps, p.length ≤ 1000000 := fun p hp => by
          have := le_sum (List.mem_map.mpr ⟨p, hp, rfl⟩ : p.length ∈ ps.map List.length)
          (clear eg hb0 hp0 k2 h0 hps hl1 hl10 hu e_LINE_FEED e_MOST_TABLE_LINES hne; omega)
        refine bg fun G' g' => ?_
        obtain ⟨_, _, hb01⟩ := LL1.at_ 0 b0 p0 hb0 hp0
        refine g' ?_
        clear g' G'
        refine ⟨_, rfl, l1, _, _, V.ref b0, rfl, rfl, SqL.of hl1, atI_of (j := 0) rfl (by rw [List.getElem?_map, hb0]; rfl), b0, p0, rfl, SqL.of hb01, hpl p0 (List.mem_of_getElem? hp0), fun l2 H2 ns hl20 hl2 LL2 s2 => ?_⟩
        generalize hnm : Sh27.words p0 = names at LL2 k1 k2
        have hnl : ns.length = names.length := LL2.len
        refine ⟨_, rfl, l2, ns, names, rfl, SqL.of hl2, LL2.ls, _, rfl, ite2 (fun h1 => ?_) (fun h1 => ?_)⟩
        · have h1' : ¬ Tb.namesB names = true := by simpa using h1
          rw [if_neg h1'] at k2
          exact k2 rfl _
        · have h1' : Tb.namesB names = true := by simpa using h1
          rw [if_pos h1'] at k1 k2
          have hN : 1 ≤ names.length ∧ names.length ≤ 16 ∧ ∀ x ∈ names, x.length ≤ 32 := by
            unfold Tb.namesB Sh27.among at h1'
            simp only [Bool.and_eq_true, decide_eq_true_eq, List.all_eq_true] at h1'
            exact ⟨h1'.1.1, h1'.1.2, fun x hx => (Tb.name_in (h1'.2 x hx)).2⟩
          refine bg fun G' g' => ?_
          obtain ⟨n1, n2, n3⟩ := hN
          refine g' ?_
          clear g' G'
          have s12 : Same H1 H2 := s2
          generalize hRr : (ps.drop 2).dropLast = R at k1 k2
          generalize hAs : (bs.drop 2).dropLast = as2
          have LR : LLN H l1 H1 as2 R := by
            rw [← hRr, ← hAs]
            exact LL1.mid
          have hRl : R.length = ps.length - 3 := by rw [← hRr]; simp; (clear hAs k2 hRr n2 n1 h1' h1 hnl hnm hl2 hl20 hb01 eg hb0 hp0 h0 hsum hps hl1 hl10 hu e_LINE_FEED e_MOST_TABLE_LINES hsz hne; omega)
          have hal : as2.length = R.length := LR.len
          have hRm : ∀ x ∈ R, x.length ≤ 1000000 := fun x hx => hpl x (by rw [← hRr] at hx; exact List.mem_of_mem_drop (List.dropLast_subset _ hx))
          refine ⟨_, rfl, _, rfl, _, rfl, _, rfl, l1, _, rfl, SqL.of (s12 _ _ hl1), fun l3 hl3 => ?_⟩
          rw [cut_mid _ (by rw [List.length_map]; (clear hl3 hal hRl hAs k2 hRr n2 n1 h1' h1 hnl hnm hl2 hl20 hb01 eg hb0 hp0 h0 hsum hps hl1 hl10 hu e_LINE_FEED e_MOST_TABLE_LINES hsz hne; omega)), ← List.map_drop, ← List.map_dropLast, hAs]
          have s3 := same_upd (o := .lst (as2.map V.ref)) hl3
          generalize hH3 : upd H2 l3 (.lst (as2.map V.ref)) = H3 at s3
          have hl33 : H3 l3 = some (.lst (as2.map V.ref)) := by rw [← hH3]; exact upd_same
          have s13 : Same H1 H3 := s12.trans s3
          have hl23 := s3 _ _ hl2
          have LL3 := LL2.same (hide_same.trans s3)
          refine ⟨l3, rfl, ⟨_, SqL.of hl33⟩, fun D hD => lc_list (K := K) (a := l3) (xs := as2.map V.ref) (fun i H' => ∃ (rs : List (List Nat)) (ds : List Addr), allR (fun r => numsR names.length (Sh27.words r)) (R.take i) = some rs ∧ H' D = some (.lst (ds.map V.ref)) ∧ LLN H3 D H' ds rs ∧ Same H3 H')
            ⟨[], [], rfl, upd_same, ⟨rfl, fun j b q e1 _ => by simp at e1⟩, same_upd hD⟩ (fun i H' _ ⟨_, _, _, _, _, e⟩ => SqL.of (e _ _ hl33)) ?_ ?_⟩
          · intro i y H' hi h'
            refine bg fun G' g' => ?_
            obtain ⟨rs, ds, hrs, hD', LD, s'⟩ := h'
            refine g' ?_
            clear g' G'
            refine bg fun G' g' => ?_
            obtain ⟨d, rfl, hd⟩ := Tb.refs_get hi
            refine g' ?_
            clear g' G'
            have hia : i < as2.length := (List.getElem?_eq_some_iff.mp hd).1
            have hiR : i < R.length := by (clear hi hd hD' hrs hD hl23 hl33 hH3 hl3 hAs k2 hRr n2 n1 h1' h1 hnl hnm hl2 hl20 hb01 eg hb0 hp0 g2 g1 h0 hbl hsum hps hl1 hl10 hu e_LINE_FEED e_MOST_TABLE_LINES hsz hne; omega)
            have hxR := List.getElem?_eq_getElem hiR
            refine bg fun G' g' => ?_
            obtain ⟨_, _, d2⟩ := LR.at_ i d R[i] hd hxR
            refine g' ?_
            clear g' G'
            have etk : R.take (i + 1) = R.take i ++ [R[i]] := by rw [List.take_add_one, hxR]; rfl
            have hrl : rs.length = i := by
              rw [allR_len hrs, List.length_take]
              (clear etk d2 hxR hiR hi hd hD' hrs hD hl23 hl33 hH3 hl3 hAs k2 hRr n2 n1 h1' h1 hnl hnm hl2 hl20 hb01 eg hb0 hp0 g2 g1 h0 hbl hsum hps hl1 hl10 hu e_LINE_FEED e_MOST_TABLE_LINES hsz hne; omega)
            refine ⟨rfl, yesT ?_⟩
            refine ⟨_, rfl, d, R[i], rfl, SqL.of (s' _ _ (s13 _ _ d2)), hRm _ (List.getElem_mem hiR), fun l4 H4 ws hl40 hl4 LL4 s4 => ?_⟩
            refine ⟨_, rfl, l2, _, rfl, .inl (SqL.of (s4 _ _ (s' _ _ hl23))), ?_⟩
            have wl := words_len R[i]
            have hR1 := hRm _ (List.getElem_mem hiR)
            refine ⟨l4, names.length, ws, Sh27.words R[i], ?_, SqL.of hl4, LL4.ls, ?_, fun ys hys q H5 hq0 hq s5 => ?_, fun hn H5 => k2 ?_ H5⟩
            · rw [List.length_map, hnl]
              rfl
            · exact Nat.le_trans wl.1 (by (clear wl hl4 hl40 hrl etk d2 hxR hia hi hd hD' hrs hD hl23 hl33 hH3 hl3 hal hRl hAs k2 hRr n2 n1 h1' h1 hnl hnm hl2 hl20 hb01 eg hb0 hp0 g2 g1 h0 hbl hsum hps hl1 hl10 hu e_LINE_FEED e_MOST_TABLE_LINES hsz hne; omega))
            · have hqD : q ≠ D := fun z => by
                rw [z, s4 _ _ hD'] at hq0
                cases hq0
              have s45 := s4.trans s5
              refine ⟨_, s45 _ _ hD', ?_, rs ++ [ys], ds ++ [q], ?_, by rw [upd_same, List.map_append]; rfl, ?_, same_keep (s'.trans s45) hD⟩
              · rw [List.length_map, LD.len, hrl]
                exact Nat.lt_of_le_of_lt (show _ ≤ 1000000 by (clear hqD hq hq0 hys hR1 wl hl4 hl40 etk d2 hxR hi hd hD' hrs hD hl23 hl33 hH3 hl3 hAs k2 hRr n2 n1 h1' h1 hnl hnm hl2 hl20 hb01 eg hb0 hp0 h0 hsum hps hl1 hl10 hu e_LINE_FEED e_MOST_TABLE_LINES hsz hne; omega)) (by decide)
              · rw [etk, allR_snoc, hrs]
                simp only [Option.bind_some]
                rw [hys]
                rfl
              · refine LLN.snoc (LD.same fun b o e => ?_) ((s'.trans s4).free hq0) hqD ?_
                · obtain ⟨q1, q2⟩ := Ut.hide_out e
                  rw [upd_ne q1]
                  exact s45 _ _ q2
                · rw [upd_ne hqD]
                  exact hq
            · rw [allR_none (List.getElem_mem hiR) hn]
              rfl
          · intro H4 h'
            refine bg fun G' g' => ?_
            obtain ⟨rows, ds, hrs, hD4, LD, s4⟩ := h'
            refine g' ?_
            clear g' G'
            rw [List.length_map, hal, List.take_length] at hrs
            rw [hrs] at k1 k2
            simp only [Option.bind_some] at k1 k2
            have hrl : rows.length = R.length := allR_len hrs
            have T : Tb.TabOk names rows := ⟨n1, n2, n3, by (clear hD4 hrs k2 hD hl23 hl33 hH3 hl3 hAs hRr n2 n1 h1' h1 hnl hnm hl2 hl20 hb01 eg hb0 hp0 h0 hsum hps hl1 hl10 hu e_LINE_FEED e_MOST_TABLE_LINES hsz hne; omega), fun r hr' => by
              refine bg fun G' g' => ?_
              obtain ⟨x, _, hx⟩ := allR_mem hrs hr'
              refine g' ?_
              clear g' G'
              refine bg fun G' g' => ?_
              obtain ⟨_, q2, _, q4⟩ := nums_len hx
              refine g' ?_
              clear g' G'
              exact ⟨q2, q4⟩⟩
            have s14 : Same H1 H4 := s13.trans s4
            have hl24 := s4 _ _ hl23
            have LN4 := LL3.same (hide_same.trans s4)
            refine ⟨_, rfl, _, rfl, l2, D, ns, ds, names, rows, rfl, SqL.of hl24, LN4.ls, SqL.of hD4, LD.ls, T, fun q H5 hq0 hq s5 => ?_⟩
            have s05 : Same H H5 := s1.trans (s14.trans s5)
            refine ⟨_, rfl, _, _, .lst (SqL.of hq) (dpAll_n _), .lst (s05.seq hS) (dpAll_n _), shaped_n _, shaped_n _, _, rfl, ?_⟩
            rw [eqv_n]
            refine ite2 (fun h2 => ?_) (fun h2 => ?_)
            · have h2' : ¬ Sh27.table names (rows.map fun r => r.map Sh27.decimal) = tt := by simpa using h2
              rw [if_neg h2'] at k2
              exact k2 rfl _
            · have h2' : Sh27.table names (rows.map fun r => r.map Sh27.decimal) = tt := by simpa using h2
              rw [if_pos h2'] at k1
              have hl25 := s5 _ _ hl24
              have hD5 := s5 _ _ hD4
              have LN5 := LN4.same (hide_same.trans s5)
              have LD5 := LD.same (hide_same.trans s5)
              have hdl : ds.length = rows.length := LD.len
              refine ⟨_, rfl, l2, _, rfl, .inl (SqL.of hl25), _, rfl, D, _, rfl, .inl (SqL.of hD5), (by show 2 ≤ sizeLine; decide), fun tl htl => ?_⟩
              rw [List.length_map, List.length_map, hnl, hdl]
              have s6 := same_upd (o := .lst [V.int (names.length : Nat), V.int (rows.length : Nat)]) htl
              have hflat : ∀ i, ((names.take i).flatMap fun n => n.length :: n).length ≤ 528 := fun i => by
                refine Nat.le_trans (flat_le _ 32 fun x hx => n3 x (List.mem_of_mem_take hx)) ?_
                have : (names.take i).length ≤ 16 := by rw [List.length_take]; (clear htl hdl hD5 hl25 h2' h2 hq hq0 hl24 hrl hD4 hrs k2 hD hl23 hl33 hH3 hl3 hal hRl hAs hRr h1' h1 hnl hnm hl2 hl20 hb01 eg hb0 hp0 g2 g1 h0 hbl hsum hps hl1 hl10 hu e_LINE_FEED e_MOST_TABLE_LINES hsz hne; omega)
                exact Nat.mul_le_mul_right 33 this
              have hflat2 : ∀ i, (rows.take i).flatten.length ≤ 4096 := fun i => by
                refine Nat.le_trans (flatten_le _ 16 fun x hx => by
                  have := (T.rl x (List.mem_of_mem_take hx)).1
                  (clear htl hdl hD5 hl25 h2' h2 hq hq0 hl24 hrl hD4 hrs k2 hD hl23 hl33 hH3 hl3 hal hRl hAs hRr h1' h1 hnl hnm hl2 hl20 hb01 eg hb0 hp0 g2 g1 h0 hbl hsum hps hl1 hl10 hu e_LINE_FEED e_MOST_TABLE_LINES hsz hne; omega)) ?_
                have : (rows.take i).length ≤ 256 := by rw [List.length_take]; (clear htl hD5 hl25 h2' h2 hq hq0 hl24 hD4 hrs k2 hD hl23 hl33 hH3 hl3 hAs hRr n2 n1 h1' h1 hnl hnm hl2 hl20 hb01 eg hb0 hp0 h0 hsum hps hl1 hl10 hu e_LINE_FEED e_MOST_TABLE_LINES hsz hne; omega)
                exact Nat.mul_le_mul_right 16 this
              generalize hH6 : upd H5 tl (.lst [V.int (names.length : Nat), V.int (rows.length : Nat)]) = H6 at s6
              have htl6 : H6 tl = some (.lst [V.int (names.length : Nat), V.int (rows.length : Nat)]) := by rw [← hH6]; exact upd_same
              refine ⟨_, rfl, l2, rfl, ⟨_, SqL.of (s6 _ _ hl25)⟩, for_list (K := K) (a := l2) (xs := ns.map V.ref) (fun i σ H' => ∃ v : Option V, σ = [some (.ref a), some (.ref l1), some (.ref l2), some (.ref D), some (.ref tl), v, none, none] ∧ Same H5 H' ∧ H' tl = some (.lst (nI (names.length :: rows.length :: (names.take i).flatMap fun n => n.length :: n))))
                ⟨none, rfl, s6, htl6⟩ (fun i σ H' _ ⟨_, _, e, _⟩ => SqL.of (e _ _ hl25)) ?_ ?_⟩
              · intro i y σ H7 hi h'
                refine bg fun G' g' => ?_
                obtain ⟨v, rfl, s7, htl7⟩ := h'
                refine g' ?_
                clear g' G'
                refine bg fun G' g' => ?_
                obtain ⟨d, rfl, hd⟩ := Tb.refs_get hi
                refine g' ?_
                clear g' G'
                have hin : i < names.length := by
                  have := (List.getElem?_eq_some_iff.mp hd).1
                  (clear hi hd htl7 htl6 hH6 htl hdl hD5 hl25 h2' h2 hq hq0 hl24 hrl hD4 hrs k2 hD hl23 hl33 hH3 hl3 hal hRl hAs hRr n2 n1 h1' h1 hnm hl2 hl20 hb01 eg hb0 hp0 g2 g1 h0 hbl hsum hps hl1 hl10 hu e_LINE_FEED e_MOST_TABLE_LINES hsz hne; omega)
                have hxn := List.getElem?_eq_getElem hin
                refine bg fun G' g' => ?_
                obtain ⟨_, _, d2⟩ := LN5.at_ i d names[i] hd hxn
                refine g' ?_
                clear g' G'
                have d7 := s7 _ _ d2
                have hf := hflat i
                have hd32 := n3 _ (List.getElem_mem hin)
                refine ⟨_, rfl, .inl ⟨rfl, _, SqL.of htl7⟩, _, rfl, d, _, rfl, .inl (SqL.of d7), (by show 1 ≤ sizeLine; decide), fun e1 he1 => ?_⟩
                have se1 := same_upd (o := .lst [V.int ((nI names[i]).length : Nat)]) he1
                refine ⟨_, rfl, e1, d, _, _, rfl, rfl, upd_same, se1 _ _ d7, ?_, fun e2 he2 => ?_⟩
                · rw [nI_len]
                  exact Nat.le_trans (show _ ≤ 100 by simp only [List.length_singleton]; (clear he1 hf d7 d2 hxn hi hd htl7 htl6 hH6 htl hdl hD5 hl25 h2' h2 hq hq0 hl24 hrl hD4 hrs k2 hD hl23 hl33 hH3 hl3 hal hRl hAs hRr n2 n1 h1' h1 hnl hnm hl2 hl20 hb01 eg hb0 hp0 g2 g1 h0 hbl hsum hps hl1 hl10 hu e_LINE_FEED e_MOST_TABLE_LINES hsz hne; omega)) (by decide)
                have se2 := same_upd (o := .lst ([V.int ((nI names[i]).length : Nat)] ++ nI names[i])) he2
                have s78 := se1.trans se2
                refine ⟨tl, e2, _, _, rfl, rfl, s78 _ _ htl7, upd_same, ?_, some (.ref d), rfl, same_keep (s7.trans s78) htl, ?_⟩
                · simp only [List.length_append, List.length_singleton, nI_len, List.length_cons, List.length_nil]
                  exact Nat.le_trans (show _ ≤ 1000 by (clear he2 he1 d7 d2 hxn hi hd htl7 htl6 hH6 htl hdl hD5 hl25 h2' h2 hq hq0 hl24 hrl hD4 hrs k2 hD hl23 hl33 hH3 hl3 hal hRl hAs hRr n2 n1 h1' h1 hnl hnm hl2 hl20 hb01 eg hb0 hp0 g2 g1 h0 hbl hsum hps hl1 hl10 hu e_LINE_FEED e_MOST_TABLE_LINES hsz hne; omega)) (by decide)
                · rw [upd_same, List.take_add_one, hxn]
                  simp only [Option.toList_some, List.flatMap_append, List.flatMap_cons, List.flatMap_nil, List.append_nil, nI_len]
                  rw [← List.cons_append, ← List.cons_append, nI_app]
                  rfl
              · intro σ H7 h'
                refine bg fun G' g' => ?_
                obtain ⟨v, rfl, s7, htl7⟩ := h'
                refine g' ?_
                clear g' G'
                rw [List.length_map, hnl, List.take_length] at htl7
                have hf := hflat names.length
                rw [List.take_length] at hf
                generalize hFF : (names.flatMap fun n => n.length :: n) = FF at htl7 hf
                refine ⟨_, rfl, D, rfl, ⟨_, SqL.of (s7 _ _ hD5)⟩, for_list (K := K) (a := D) (xs := ds.map V.ref) (fun i σ H' => ∃ v6 : Option V, σ = [some (.ref a), some (.ref l1), some (.ref l2), some (.ref D), some (.ref tl), v, v6, none] ∧ Same H5 H' ∧ H' tl = some (.lst (nI (names.length :: rows.length :: (FF ++ (rows.take i).flatten)))))
                  ⟨none, rfl, s7, by rw [List.take_zero, List.flatten_nil, List.append_nil]; exact htl7⟩ (fun i σ H' _ ⟨_, _, e, _⟩ => SqL.of (e _ _ hD5)) ?_ ?_⟩
                · intro i y σ H8 hi h'
                  refine bg fun G' g' => ?_
                  obtain ⟨v6, rfl, s8, htl8⟩ := h'
                  refine g' ?_
                  clear g' G'
                  refine bg fun G' g' => ?_
                  obtain ⟨d, rfl, hd⟩ := Tb.refs_get hi
                  refine g' ?_
                  clear g' G'
                  have hin : i < rows.length := by
                    have := (List.getElem?_eq_some_iff.mp hd).1
                    (clear hi hd htl8 hf htl7 hFF htl6 hH6 htl hD5 hl25 h2' h2 hq hq0 hl24 hrl hD4 hrs k2 hD hl23 hl33 hH3 hl3 hal hRl hAs hRr n2 n1 h1' h1 hnl hnm hl2 hl20 hb01 eg hb0 hp0 g2 g1 h0 hbl hsum hps hl1 hl10 hu e_LINE_FEED e_MOST_TABLE_LINES hsz hne; omega)
                  have hxn := List.getElem?_eq_getElem hin
                  refine bg fun G' g' => ?_
                  obtain ⟨_, _, d2⟩ := LD5.at_ i d rows[i] hd hxn
                  refine g' ?_
                  clear g' G'
                  have hf2 := hflat2 i
                  have hd16 := (T.rl _ (List.getElem_mem hin)).1
                  refine ⟨_, rfl, .inl ⟨rfl, _, SqL.of htl8⟩, _, rfl, tl, d, _, _, rfl, rfl, htl8, s8 _ _ d2, ?_, some (.ref d), rfl, same_keep s8 htl, ?_⟩
                  · simp only [nI_len, List.length_cons, List.length_append]
                    exact Nat.le_trans (show _ ≤ 10000 by (clear d2 hxn hi hd htl8 htl7 hFF htl6 hH6 htl hdl hD5 hl25 h2' h2 hq hq0 hl24 hrl hD4 hrs k2 hD hl23 hl33 hH3 hl3 hal hRl hAs hRr h1' h1 hnl hnm hl2 hl20 hb01 eg hb0 hp0 g2 g1 h0 hbl hsum hps hl1 hl10 hu e_LINE_FEED e_MOST_TABLE_LINES hsz hne; omega)) (by decide)
                  · rw [upd_same, ← nI_app, List.take_add_one, hxn]
                    simp only [Option.toList_some, List.flatten_append, List.flatten_cons, List.flatten_nil, List.append_nil, List.cons_append, List.append_assoc]
                · intro σ H8 h'
                  refine bg fun G' g' => ?_
                  obtain ⟨v6, rfl, s8, htl8⟩ := h'
                  refine g' ?_
                  clear g' G'
                  rw [List.length_map, hdl, List.take_length] at htl8
                  have hf2 := hflat2 rows.length
                  rw [List.take_length] at hf2
                  refine ⟨_, rfl, k1 _ rfl H8 tl (s05.trans s8) ?_ ?_⟩
                  · rw [htl8, ← hFF]
                    rfl
                  · unfold outT
                    rw [hFF]
                    simp only [List.length_cons, List.length_append]
                    (clear htl8 htl7 hFF htl6 hH6 htl hdl hD5 hl25 h2' h2 hq hq0 hl24 hrl hD4 hrs k2 hD hl23 hl33 hH3 hl3 hal hRl hAs hRr n2 n1 h1' h1 hnl hnm hl2 hl20 hb01 eg hb0 hp0 g2 g1 h0 hbl hsum hps hl1 hl10 hu e_LINE_FEED e_MOST_TABLE_LINES hsz hne; omega)
end
end S10

set_option Elab.async false
set_option maxRecDepth 100000
set_option linter.all false
namespace S10
open PySem L2 TL Cm
section
variable {P : Program} {w : World} {K : PySem.W.Frag} {mg : Str → Option Value} {base : Heap} {c : Cs}
theorem ok_read_back (t : T K mg c) {rd : List Nat → Option (List Nat)} {fa : Addr} {m : Nat} (hm : m ≤ 16000000) (G_read : GA P w K mg base (CXN P w c.NoSuchText) 8 fa ["text"] (spReadL rd K c.NoSuchText)) :
    GF P w K mg base CX0 (8 + 1) "read_back" ["given", "read", "most"] (spBack rd fa m K) := by
  refine t.f_read_back.ok sc_read_back (fun vs H Q E h => ?_) (fun f cdv A outer s H vs Q E hr h => ?_)
  · refine bg fun G' g' => ?_
    obtain ⟨a, ns, rfl, _⟩ := h
    refine g' ?_
    clear g' G'
    rfl
  · refine bg fun G' g' => ?_
    obtain ⟨a, ns, rfl, hS, hn, hsz, kO, kN, kY⟩ := h
    refine g' ?_
    clear g' G'
    obtain ⟨tO, eO⟩ := t.i_OUT_OF_RANGE
    obtain ⟨tN, eN⟩ := t.i_NO_SUCH_TEXT
    refine ⟨_, pss_cons (ps_if (pt_not (pt_val (pe_callG (ok_is_text t) hr pass0 (pa_cons (pv 0) (pa_cons (pv 2) pa_nil)))))
        (pss_one (ps_ret (pe_lst (pa_cons (pe_glob (v := .int (-8)) (by rfl) eO ⟨tO, rfl⟩) pa_nil)))) pss_nil)
      (pss_cons (ps_try t.x_NoSuchText.2 (by rfl) t.x_NoSuchText.1 rfl rfl
          (fun EX pn E' pass => pss_one (ps_set (i := 3) sc_read_back.nd rfl (Or.inl rfl) (pe_callL (i := 1) G_read hr pass (pa_cons (pv 0) pa_nil))))
          (fun e => pss_one (ps_ret (pe_lst (pa_cons (pe_glob (v := .int (-4)) (by rfl) eN ⟨tN, rfl⟩) pa_nil)))))
      (pss_one (ps_ret (pe_op op_cat (pe_lst (pa_cons pe_int pa_nil)) (pv 3))))), ?_⟩
    refine ⟨_, rfl, _, rfl, a, ns, _, rfl, hS, _, rfl, ite2 (fun h0 => ?_) (fun h0 => ?_)⟩
    · have h0' : textB (m : Nat) ns = false := by simpa using h0
      exact ⟨(by show 1 ≤ sizeLine; decide), fun p hp => kO h0' p _ upd_same⟩
    · have h0' : textB (m : Nat) ns = true := by simpa using h0
      refine ⟨rfl, _, rfl, a, Sh27Neutral.nats ns, rfl, by rw [← nI_nats hn]; exact hS, by simpa [Sh27Neutral.nats] using hsz, fun out ho H1 l s1 hl ho2 => ?_, fun hno H1 σ1 => ?_⟩
      · refine ⟨(by show 1 ≤ sizeLine; decide), fun p hp => ?_⟩
        refine ⟨_, rfl, p, l, _, _, rfl, rfl, upd_same, (upd_ne (ne_of_none hl hp)).trans hl, ?_, fun q hq => kY h0' out ho q _ upd_same⟩
        rw [nI_len]
        simp only [List.length_singleton]
        exact Nat.le_trans (show _ ≤ 2000001 by (clear hp hl ho h0' h0 eN eO kY kN kO hsz hm; omega)) (by decide)
      · exact ⟨(by show 1 ≤ sizeLine; decide), fun p hp => kN h0' hno p _ upd_same⟩
theorem ok_untable (t : T K mg c) (hne : c.TooGreat ≠ c.NoSuchText) : GF P w K mg base CX0 (8 + 2) "untable" ["given"] (spList PySh27.untable PySh27.untable_asked 300 70000 K) := by
  refine bg fun G' g' => ?_
  obtain ⟨f_read_table, m_read_table, G_read_table⟩ := (ok_read_table (P := P) (w := w) (base := base) t hne).ex
  refine g' ?_
  clear g' G'
  have GB := ok_read_back (m := 65536) t (by decide) G_read_table
  refine t.f_untable.ok sc_untable (fun vs H Q E h => ?_) (fun f cdv A outer s H vs Q E hr h => ?_)
  · refine bg fun G' g' => ?_
    obtain ⟨a, ns, rfl, _⟩ := h
    refine g' ?_
    clear g' G'
    rfl
  · refine bg fun G' g' => ?_
    obtain ⟨a, ns, rfl, hS, hn, hlen, _, k⟩ := h
    refine g' ?_
    clear g' G'
    obtain ⟨t_MOST_BYTES_OF_A_TABLE, e_MOST_BYTES_OF_A_TABLE⟩ := t.i_MOST_BYTES_OF_A_TABLE
    refine ⟨_, (pss_one (ps_ret (pe_callG GB hr pass0 (pa_cons (pv 0) (pa_cons (pe_glob (v := .ref f_read_table) (by rfl) m_read_table rfl) (pa_cons (pe_glob (v := .int 65536) (by rfl) e_MOST_BYTES_OF_A_TABLE ⟨t_MOST_BYTES_OF_A_TABLE, rfl⟩) pa_nil)))))), ?_⟩
    have hn0 : ∀ n ∈ ns, 0 ≤ n := fun n hn' => (hn n hn').1
    refine bg fun G' g' => ?_
    obtain ⟨o1, o2, o3⟩ := pic_out (Sh27.untable (Sh27Neutral.nats ns)) (Sh27.isBytes (Sh27Neutral.nats ns) 65536) (fun x => Sh27.told0 (Ut.outT x)) (PySh27.untable ns) rfl
    refine g' ?_
    clear g' G'
    rw [bytes_eq hn0] at o1 o2 o3
    refine ⟨_, rfl, a, ns, rfl, hS, hn0, by omega, fun h0 l H' hl => k l H' ?_, fun h0 hno l H' hl => k l H' ?_, fun h0 out ho l H' hl => k l H' ?_⟩
    · rw [hl, o1 h0]
      rfl
    · rw [hl, o2 h0 (by rw [Ut.readT_eq] at hno; exact Option.map_eq_none_iff.mp hno)]
      rfl
    · rw [Ut.readT_eq] at ho
      refine bg fun G' g' => ?_
      obtain ⟨y, hy, rfl⟩ := Option.map_eq_some_iff.mp ho
      refine g' ?_
      clear g' G'
      rw [hl, o3 h0 y hy]
      exact congrArg (fun z => some (HO.lst z)) (told0_out _).symm
theorem said : PySem.Challenge.rw_shownback_s10_untable.wellSaid = true := by decide +kernel
theorem req {P : Params} {h : Heap} {args : List PySem.W.WData} {vals : List Value} (hpre : PySem.Challenge.rw_shownback_s10_untable.pre args = true) (hwl : PySem.W.WellAll P h vals args) :
    ∃ (vs : List V) (S : List Addr) (f : Addr → List V) (out : List Int), Vals vs vals ∧ vals.length = 1 ∧
        (∀ a ∈ S, ∃ its : List Value, h.get? a = some { cls := .type "list", data := .seq its.toArray } ∧ Vals (f a) its ∧ (f a).length ≤ sizeLine) ∧
        (∀ (K : PySem.W.Frag) (H : Hp), (∀ a ∈ S, SqL K H a (f a)) → spList PySh27.untable PySh27.untable_asked 300 70000 K vs H (fun v H' => ∃ l, v = .ref l ∧ H' l = some (.lst (out.map V.int))) fun _ _ _ => False) ∧
        PySem.Challenge.rw_shownback_s10_untable.post args (.list (out.map .int)) = true := by
  obtain ⟨⟨ns, ⟨⟩⟩, hw, hasked, rfl⟩ := (PySem.W.OpenSpec.pre_iff said args).mp hpre
  have hw' : (((PySem.W.Codec.inLen 0 70000 ns && ns.all (PySem.W.Codec.inInt 0 300)) && true)) = true := hw
  simp only [Bool.and_eq_true, PySem.W.Codec.inInt, PySem.W.Codec.inLen, PySem.W.Codec.inNat, decide_eq_true_eq, List.all_eq_true] at hw'
  refine bg fun G' g' => ?_
  obtain ⟨⟨⟨_, hlen⟩, hns⟩, _⟩ := hw'
  refine g' ?_
  clear g' G'
  have hwl' : PySem.W.WellAll P h vals [.list (ns.map .int)] := hwl
  cases hwl' with
  | cons v1 r1 =>
    cases r1
    cases v1 with
    | list ho hall =>
      rename_i a its
      refine ⟨[.ref a], [a], fun _ => ns.map V.int, PySh27.untable ns, .cons rfl .nil, rfl, ?_, ?_, ?_⟩
      · intro b hb
        obtain rfl : b = a := by simpa using hb
        exact ⟨its, ho, ints_well ns its hall, by rw [List.length_map]; exact Nat.le_trans hlen (by decide)⟩
      · intro K H hS
        exact ⟨a, ns, rfl, hS a (by simp), fun n hn => hns n hn, by omega, hasked, fun l H' hl => ⟨l, rfl, hl⟩⟩
      · exact (PySem.W.OpenSpec.post_iff said hw _ []).mpr rfl
end
end S10

open PySem PySem.W PyProof.Rows
set_option Elab.async false
set_option maxRecDepth 100000 in
set_option maxHeartbeats 0 in
theorem PySem.Challenge.cw_shownback_s10_untable_holds : PySem.Challenge.rw_shownback_s10_untable.Holds := by
  w_on; k_headS; (case hw => exact ⟨[.list []], by decide +kernel, by decide +kernel⟩)
  k_fillS
  refine L2.spec_walk (r := PySem.Challenge.rw_shownback_s10_untable) (k := 10) (CX := L2.CX0) (sp := (Cm.spList PySh27.untable PySh27.untable_asked 300 70000)) (ps := ["given"]) ⟨rfl, by decide, by decide⟩ (fun w h Y => PySem.W.kIn_of Y) ?F ?R (fun _ _ _ _ z => z)
  case R => exact fun w h args vals hpre hwl => S10.req hpre hwl
  case F =>
    intro w mg fa h KX G hmg
    have b_len : mg "len" = none := PySem.W.mg_none_of KX G (by k_is)
    have b_list : mg "list" = none := PySem.W.mg_none_of KX G (by k_is)
    have b_max : mg "max" = none := PySem.W.mg_none_of KX G (by k_is)
    have b_ord : mg "ord" = none := PySem.W.mg_none_of KX G (by k_is)
    have b_range : mg "range" = none := PySem.W.mg_none_of KX G (by k_is)
    have b_str : mg "str" = none := PySem.W.mg_none_of KX G (by k_is)
    have b_tuple : mg "tuple" = none := PySem.W.mg_none_of KX G (by k_is)
    have i_OUT_OF_RANGE : ∃ t, mg "OUT_OF_RANGE" = some (.int (-8) t) := Cm.int_mk KX G (by k_is)
    have i_NO_SUCH_TEXT : ∃ t, mg "NO_SUCH_TEXT" = some (.int (-4) t) := Cm.int_mk KX G (by k_is)
    have i_SIGN : ∃ t, mg "SIGN" = some (.int 9223372036854775808 t) := Cm.int_mk KX G (by k_is)
    have i_ENDLESS : ∃ t, mg "ENDLESS" = some (.int 9218868437227405312 t) := Cm.int_mk KX G (by k_is)
    have i_LEAST_NORMAL_WHOLE : ∃ t, mg "LEAST_NORMAL_WHOLE" = some (.int 4503599627370496 t) := Cm.int_mk KX G (by k_is)
    have i_LEAST_POWER : ∃ t, mg "LEAST_POWER" = some (.int (-1074) t) := Cm.int_mk KX G (by k_is)
    have i_MOST_BYTES_OF_A_NUMBER : ∃ t, mg "MOST_BYTES_OF_A_NUMBER" = some (.int 64 t) := Cm.int_mk KX G (by k_is)
    have i_MOST_BYTES_OF_A_TABLE : ∃ t, mg "MOST_BYTES_OF_A_TABLE" = some (.int 65536 t) := Cm.int_mk KX G (by k_is)
    have i_MOST_NAMES : ∃ t, mg "MOST_NAMES" = some (.int 16 t) := Cm.int_mk KX G (by k_is)
    have i_MOST_NAME_BYTES : ∃ t, mg "MOST_NAME_BYTES" = some (.int 32 t) := Cm.int_mk KX G (by k_is)
    have i_MOST_TABLE_LINES : ∃ t, mg "MOST_TABLE_LINES" = some (.int 256 t) := Cm.int_mk KX G (by k_is)
    have i_LINE_FEED : ∃ t, mg "LINE_FEED" = some (.int 10 t) := Cm.int_mk KX G (by k_is)
    have i_MOST_DIGITS : ∃ t, mg "MOST_DIGITS" = some (.int 17 t) := Cm.int_mk KX G (by k_is)
    have i_TENS_FOR_THE_LEAST : ∃ t, mg "TENS_FOR_THE_LEAST" = some (.int 341 t) := Cm.int_mk KX G (by k_is)
    have i_BLANK : ∃ t, mg "BLANK" = some (.int 32 t) := Cm.int_mk KX G (by k_is)
    have i_DASH : ∃ t, mg "DASH" = some (.int 45 t) := Cm.int_mk KX G (by k_is)
    have u_MINUS := Cm.modX_mk (x := "MINUS") (xs := [45]) KX G (by k_is) (by k_is) (.cons ⟨_, rfl⟩ .nil) (show 1 ≤ sizeLine by decide)
    have u_POINT := Cm.modX_mk (x := "POINT") (xs := [46]) KX G (by k_is) (by k_is) (.cons ⟨_, rfl⟩ .nil) (show 1 ≤ sizeLine by decide)
    have u_SMALL_E := Cm.modX_mk (x := "SMALL_E") (xs := [101]) KX G (by k_is) (by k_is) (.cons ⟨_, rfl⟩ .nil) (show 1 ≤ sizeLine by decide)
    have u_BETWEEN := Cm.modX_mk (x := "BETWEEN") (xs := [32, 32]) KX G (by k_is) (by k_is) (.cons ⟨_, rfl⟩ (.cons ⟨_, rfl⟩ .nil)) (show 2 ≤ sizeLine by decide)
    have x_NoSuchText : ∃ CX, mg "NoSuchText" = some (.ref CX) ∧ L2.XCls (L2.KOf KX) CX := by
      dsimp only [L2.KOf]
      refine' ⟨_, PySem.W.mg_of KX G ?a, Cm.xcls_mk ?b ?c ?d ?e⟩
      (case a => k_is)
      (case b => k_is)
      (case c => k_is)
      (case d => exact rfl)
      (case e => k_is)
    obtain ⟨C_NoSuchText, x_NoSuchText⟩ := x_NoSuchText
    have x_TooGreat : ∃ CX, mg "TooGreat" = some (.ref CX) ∧ L2.XCls (L2.KOf KX) CX := by
      dsimp only [L2.KOf]
      refine' ⟨_, PySem.W.mg_of KX G ?a, Cm.xcls_mk ?b ?c ?d ?e⟩
      (case a => k_is)
      (case b => k_is)
      (case c => k_is)
      (case d => exact rfl)
      (case e => k_is)
    obtain ⟨C_TooGreat, x_TooGreat⟩ := x_TooGreat
    have c_Reader : ∃ C, (mg "Reader" = some (.ref C) ∧ L2.Cls (L2.KOf KX) C) ∧ L2.NoAttr (L2.KOf KX) C "text" ∧ L2.NoAttr (L2.KOf KX) C "at" ∧ Cm.Ini (L2.KOf KX) C "Reader.__init__" S10.s_Reader___init__ ["self", "text"] ∧ Cm.Mt (L2.KOf KX) C "ended" "Reader.ended" S10.s_Reader_ended ["self"] ∧ Cm.Mt (L2.KOf KX) C "takes" "Reader.takes" S10.s_Reader_takes ["self", "wanted"] ∧ Cm.Mt (L2.KOf KX) C "byte" "Reader.byte" S10.s_Reader_byte ["self", "least", "most"] ∧ Cm.Mt (L2.KOf KX) C "digits" "Reader.digits" S10.s_Reader_digits ["self", "most"] ∧ Cm.Mt (L2.KOf KX) C "number" "Reader.number" S10.s_Reader_number ["self", "most"] := by
      dsimp only [L2.KOf]
      refine' ⟨_, ⟨PySem.W.mg_of KX G ?aR, ⟨?pg, ?hd, ?po, ?sa⟩⟩, ?n0, ?n1, Cm.ini_mk ?mk ?kc ?a0 ?i0 ?l0 ?c0 ?k0 (fun _ _ _ _ _ _ => Cm.bnd2 (fun _ _ => rfl)), Cm.mt_mk ?a1 ?i1 ?l1 ?c1 ?k1 (fun _ _ _ _ _ _ => Cm.bnd1 (fun _ => rfl)), Cm.mt_mk ?a2 ?i2 ?l2 ?c2 ?k2 (fun _ _ _ _ _ _ => Cm.bnd2 (fun _ _ => rfl)), Cm.mt_mk ?a3 ?i3 ?l3 ?c3 ?k3 (fun _ _ _ _ _ _ => Cm.bnd3 (fun _ _ _ => rfl)), Cm.mt_mk ?a4 ?i4 ?l4 ?c4 ?k4 (fun _ _ _ _ _ _ => Cm.bnd2 (fun _ _ => rfl)), Cm.mt_mk ?a5 ?i5 ?l5 ?c5 ?k5 (fun _ _ _ _ _ _ => Cm.bnd2 (fun _ _ => rfl))⟩
      (case aR => k_is)
      (case pg => k_is)
      (case hd => k_is)
      (case po => k_is)
      (case sa => k_is)
      (case n0 => unfold L2.NoAttr; k_is)
      (case n1 => unfold L2.NoAttr; k_is)
      (case mk => k_is)
      (case kc => k_is)
      (case a0 => k_is)
      (case i0 => k_is)
      (case l0 => k_is)
      (case c0 => k_is)
      (case k0 => k_is)
      (case a1 => k_is)
      (case i1 => k_is)
      (case l1 => k_is)
      (case c1 => k_is)
      (case k1 => k_is)
      (case a2 => k_is)
      (case i2 => k_is)
      (case l2 => k_is)
      (case c2 => k_is)
      (case k2 => k_is)
      (case a3 => k_is)
      (case i3 => k_is)
      (case l3 => k_is)
      (case c3 => k_is)
      (case k3 => k_is)
      (case a4 => k_is)
      (case i4 => k_is)
      (case l4 => k_is)
      (case c4 => k_is)
      (case k4 => k_is)
      (case a5 => k_is)
      (case i5 => k_is)
      (case l5 => k_is)
      (case c5 => k_is)
      (case k5 => k_is)
    refine bg fun G' g' => ?_
    obtain ⟨C_Reader, c_Reader, n_Reader_text, n_Reader_at, m_Reader_ini, m_Reader_ended, m_Reader_takes, m_Reader_byte, m_Reader_digits, m_Reader_number⟩ := c_Reader
    refine g' ?_
    clear g' G'
    have f_exponent := Cm.fn_mk (st := S10.s_exponent) (x := "exponent") (ps := ["bits"]) KX G (by k_is) (by k_is) (by k_is) (by k_is) (fun _ _ _ _ _ _ => Cm.bnd1 (fun _ => rfl))
    have f_is_below_nought := Cm.fn_mk (st := S10.s_is_below_nought) (x := "is_below_nought") (ps := ["bits"]) KX G (by k_is) (by k_is) (by k_is) (by k_is) (fun _ _ _ _ _ _ => Cm.bnd1 (fun _ => rfl))
    have f_whole_of := Cm.fn_mk (st := S10.s_whole_of) (x := "whole_of") (ps := ["bits"]) KX G (by k_is) (by k_is) (by k_is) (by k_is) (fun _ _ _ _ _ _ => Cm.bnd1 (fun _ => rfl))
    have f_power_of := Cm.fn_mk (st := S10.s_power_of) (x := "power_of") (ps := ["bits"]) KX G (by k_is) (by k_is) (by k_is) (by k_is) (fun _ _ _ _ _ _ => Cm.bnd1 (fun _ => rfl))
    have f_power_of_ten := Cm.fn_mk (st := S10.s_power_of_ten) (x := "power_of_ten") (ps := ["many"]) KX G (by k_is) (by k_is) (by k_is) (by k_is) (fun _ _ _ _ _ _ => Cm.bnd1 (fun _ => rfl))
    have f_power_for := Cm.fn_mk (st := S10.s_power_for) (x := "power_for") (ps := ["over", "under"]) KX G (by k_is) (by k_is) (by k_is) (by k_is) (fun _ _ _ _ _ _ => Cm.bnd2 (fun _ _ => rfl))
    have f_nearest_to_ratio := Cm.fn_mk (st := S10.s_nearest_to_ratio) (x := "nearest_to_ratio") (ps := ["over", "under"]) KX G (by k_is) (by k_is) (by k_is) (by k_is) (fun _ _ _ _ _ _ => Cm.bnd2 (fun _ _ => rfl))
    have f_nearest_to_decimal := Cm.fn_mk (st := S10.s_nearest_to_decimal) (x := "nearest_to_decimal") (ps := ["number", "tens"]) KX G (by k_is) (by k_is) (by k_is) (by k_is) (fun _ _ _ _ _ _ => Cm.bnd2 (fun _ _ => rfl))
    have f_all_within := Cm.fn_mk (st := S10.s_all_within) (x := "all_within") (ps := ["numbers", "least", "most"]) KX G (by k_is) (by k_is) (by k_is) (by k_is) (fun _ _ _ _ _ _ => Cm.bnd3 (fun _ _ _ => rfl))
    have f_is_text := Cm.fn_mk (st := S10.s_is_text) (x := "is_text") (ps := ["given", "most"]) KX G (by k_is) (by k_is) (by k_is) (by k_is) (fun _ _ _ _ _ _ => Cm.bnd2 (fun _ _ => rfl))
    have f_are_names := Cm.fn_mk (st := S10.s_are_names) (x := "are_names") (ps := ["names"]) KX G (by k_is) (by k_is) (by k_is) (by k_is) (fun _ _ _ _ _ _ => Cm.bnd1 (fun _ => rfl))
    have f_bytes_of := Cm.fn_mk (st := S10.s_bytes_of) (x := "bytes_of") (ps := ["words"]) KX G (by k_is) (by k_is) (by k_is) (by k_is) (fun _ _ _ _ _ _ => Cm.bnd1 (fun _ => rfl))
    have f_places_before_point := Cm.fn_mk (st := S10.s_places_before_point) (x := "places_before_point") (ps := ["whole", "power"]) KX G (by k_is) (by k_is) (by k_is) (by k_is) (fun _ _ _ _ _ _ => Cm.bnd2 (fun _ _ => rfl))
    have f_picked := Cm.fn_mk (st := S10.s_picked) (x := "picked") (ps := ["number", "step", "below", "above", "ends_too"]) KX G (by k_is) (by k_is) (by k_is) (by k_is) (fun _ _ _ _ _ _ => Cm.bnd5 (fun _ _ _ _ _ => rfl))
    have f_shortest := Cm.fn_mk (st := S10.s_shortest) (x := "shortest") (ps := ["whole", "power"]) KX G (by k_is) (by k_is) (by k_is) (by k_is) (fun _ _ _ _ _ _ => Cm.bnd2 (fun _ _ => rfl))
    have f_written := Cm.fn_mk (st := S10.s_written) (x := "written") (ps := ["digits", "places"]) KX G (by k_is) (by k_is) (by k_is) (by k_is) (fun _ _ _ _ _ _ => Cm.bnd2 (fun _ _ => rfl))
    have f_tell_decimal := Cm.fn_mk (st := S10.s_tell_decimal) (x := "tell_decimal") (ps := ["bits"]) KX G (by k_is) (by k_is) (by k_is) (by k_is) (fun _ _ _ _ _ _ => Cm.bnd1 (fun _ => rfl))
    have f_number_of := Cm.fn_mk (st := S10.s_number_of) (x := "number_of") (ps := ["digits"]) KX G (by k_is) (by k_is) (by k_is) (by k_is) (fun _ _ _ _ _ _ => Cm.bnd1 (fun _ => rfl))
    have f_read_power := Cm.fn_mk (st := S10.s_read_power) (x := "read_power") (ps := ["reader"]) KX G (by k_is) (by k_is) (by k_is) (by k_is) (fun _ _ _ _ _ _ => Cm.bnd1 (fun _ => rfl))
    have f_read_decimal := Cm.fn_mk (st := S10.s_read_decimal) (x := "read_decimal") (ps := ["text"]) KX G (by k_is) (by k_is) (by k_is) (by k_is) (fun _ _ _ _ _ _ => Cm.bnd1 (fun _ => rfl))
    have f_at_the_right := Cm.fn_mk (st := S10.s_at_the_right) (x := "at_the_right") (ps := ["words"]) KX G (by k_is) (by k_is) (by k_is) (by k_is) (fun _ _ _ _ _ _ => Cm.bnd1 (fun _ => rfl))
    have f_tell_row := Cm.fn_mk (st := S10.s_tell_row) (x := "tell_row") (ps := ["columns", "row"]) KX G (by k_is) (by k_is) (by k_is) (by k_is) (fun _ _ _ _ _ _ => Cm.bnd2 (fun _ _ => rfl))
    have f_tell_table := Cm.fn_mk (st := S10.s_tell_table) (x := "tell_table") (ps := ["names", "lines"]) KX G (by k_is) (by k_is) (by k_is) (by k_is) (fun _ _ _ _ _ _ => Cm.bnd2 (fun _ _ => rfl))
    have f_parted := Cm.fn_mk (st := S10.s_parted) (x := "parted") (ps := ["text", "mark"]) KX G (by k_is) (by k_is) (by k_is) (by k_is) (fun _ _ _ _ _ _ => Cm.bnd2 (fun _ _ => rfl))
    have f_words_of := Cm.fn_mk (st := S10.s_words_of) (x := "words_of") (ps := ["row"]) KX G (by k_is) (by k_is) (by k_is) (by k_is) (fun _ _ _ _ _ _ => Cm.bnd1 (fun _ => rfl))
    have f_read_number := Cm.fn_mk (st := S10.s_read_number) (x := "read_number") (ps := ["word"]) KX G (by k_is) (by k_is) (by k_is) (by k_is) (fun _ _ _ _ _ _ => Cm.bnd1 (fun _ => rfl))
    have f_read_numbers := Cm.fn_mk (st := S10.s_read_numbers) (x := "read_numbers") (ps := ["words", "columns"]) KX G (by k_is) (by k_is) (by k_is) (by k_is) (fun _ _ _ _ _ _ => Cm.bnd2 (fun _ _ => rfl))
    have f_read_table := Cm.fn_mk (st := S10.s_read_table) (x := "read_table") (ps := ["text"]) KX G (by k_is) (by k_is) (by k_is) (by k_is) (fun _ _ _ _ _ _ => Cm.bnd1 (fun _ => rfl))
    have f_read_back := Cm.fn_mk (st := S10.s_read_back) (x := "read_back") (ps := ["given", "read", "most"]) KX G (by k_is) (by k_is) (by k_is) (by k_is) (fun _ _ _ _ _ _ => Cm.bnd3 (fun _ _ _ => rfl))
    have f_untable := Cm.fn_mk (st := S10.s_untable) (x := "untable") (ps := ["given"]) KX G (by k_is) (by k_is) (by k_is) (by k_is) (fun _ _ _ _ _ _ => Cm.bnd1 (fun _ => rfl))
    have t : S10.T (L2.KOf KX) mg ⟨C_Reader, 0, C_NoSuchText, C_TooGreat, 0, 0⟩ := { b_len := b_len, b_list := b_list, b_max := b_max, b_ord := b_ord, b_range := b_range, b_str := b_str, b_tuple := b_tuple, i_OUT_OF_RANGE := i_OUT_OF_RANGE, i_NO_SUCH_TEXT := i_NO_SUCH_TEXT, i_SIGN := i_SIGN, i_ENDLESS := i_ENDLESS, i_LEAST_NORMAL_WHOLE := i_LEAST_NORMAL_WHOLE, i_LEAST_POWER := i_LEAST_POWER, i_MOST_BYTES_OF_A_NUMBER := i_MOST_BYTES_OF_A_NUMBER, i_MOST_BYTES_OF_A_TABLE := i_MOST_BYTES_OF_A_TABLE, i_MOST_NAMES := i_MOST_NAMES, i_MOST_NAME_BYTES := i_MOST_NAME_BYTES, i_MOST_TABLE_LINES := i_MOST_TABLE_LINES, i_LINE_FEED := i_LINE_FEED, i_MOST_DIGITS := i_MOST_DIGITS, i_TENS_FOR_THE_LEAST := i_TENS_FOR_THE_LEAST, i_BLANK := i_BLANK, i_DASH := i_DASH, u_MINUS := u_MINUS, u_POINT := u_POINT, u_SMALL_E := u_SMALL_E, u_BETWEEN := u_BETWEEN, x_NoSuchText := x_NoSuchText, x_TooGreat := x_TooGreat, c_Reader := c_Reader, n_Reader_text := n_Reader_text, n_Reader_at := n_Reader_at, m_Reader_ini := m_Reader_ini, m_Reader_ended := m_Reader_ended, m_Reader_takes := m_Reader_takes, m_Reader_byte := m_Reader_byte, m_Reader_digits := m_Reader_digits, m_Reader_number := m_Reader_number, f_exponent := f_exponent, f_is_below_nought := f_is_below_nought, f_whole_of := f_whole_of, f_power_of := f_power_of, f_power_of_ten := f_power_of_ten, f_power_for := f_power_for, f_nearest_to_ratio := f_nearest_to_ratio, f_nearest_to_decimal := f_nearest_to_decimal, f_all_within := f_all_within, f_is_text := f_is_text, f_are_names := f_are_names, f_bytes_of := f_bytes_of, f_places_before_point := f_places_before_point, f_picked := f_picked, f_shortest := f_shortest, f_written := f_written, f_tell_decimal := f_tell_decimal, f_number_of := f_number_of, f_read_power := f_read_power, f_read_decimal := f_read_decimal, f_at_the_right := f_at_the_right, f_tell_row := f_tell_row, f_tell_table := f_tell_table, f_parted := f_parted, f_words_of := f_words_of, f_read_number := f_read_number, f_read_numbers := f_read_numbers, f_read_table := f_read_table, f_read_back := f_read_back, f_untable := f_untable }
    have ne_TooGreat_NoSuchText : C_TooGreat ≠ C_NoSuchText := by
      have z1 := PySem.W.mg_of (n := "NoSuchText") KX G (by k_is)
      have z2 := PySem.W.mg_of (n := "TooGreat") KX G (by k_is)
      have y1 := Option.some.inj (x_NoSuchText.1.symm.trans z1)
      have y2 := Option.some.inj (x_TooGreat.1.symm.trans z2)
      injection y1 with y1
      injection y2 with y2
      rw [y1, y2]
      decide
    exact Cm.entry t.f_untable (fun base _ _ => S10.ok_untable t ne_TooGreat_NoSuchText) hmg

