import PyProof.Rows.All
import Wide.All
import OpenK.AllK
import Wide.FinOn
import Lean
import PyProof.EqAt
import PyProof.EqKinds
import PyProof.TupleCall
import PyProof.NsDelKeeps
import PyProof.RulesAs
import PyProof.SumAny
import PyProof.WalksMore
import PyProof.WalkInts
import PyProof.EnumMake
import KE.KMinKey
import PyProof.Rows.Range3
import PyProof.Rows.SortStr
import PyProof.StrLawsIn
import KE.KIntText
import OpenK.ZGo
import PySem.Challenge.RW_quadwords_k51_tables_written
section
set_option Elab.async false
set_option linter.all false
set_option maxRecDepth 100000
namespace L2
open PySem PySem.Spec PyProof.Rows
abbrev Key := Sum Int Str
def keyIs : Key → Value → Bool
  | .inl k, v => Value.isInt k v
  | .inr x, v => Value.isStrOf x v
def keyH (w : World) : Key → Int
  | .inl k => hashInt k
  | .inr x => hashStr w x
theorem keyIs_shape : ∀ {k : Key} {v : Value}, keyIs k v = true → (∃ i t, k = Sum.inl i ∧ v = Value.int i t) ∨ (∃ x t, k = Sum.inr x ∧ v = Value.str x t)
  | .inl i, v, h => by
    obtain ⟨t, e⟩ := Value.isInt_shape (k := i) (v := v) h
    exact .inl ⟨i, t, rfl, e⟩
  | .inr x, v, h => by
    obtain ⟨t, e⟩ := Value.isStrOf_shape (x := x) (v := v) h
    exact .inr ⟨x, t, rfl, e⟩
theorem key_ll (a b : Int) : decide ((Sum.inl a : Key) = Sum.inl b) = (a == b) := by
  by_cases e : a = b
  · subst e; simp
  · have h : ¬ (Sum.inl a : Key) = Sum.inl b := fun q => e (Sum.inl.inj q)
    rw [decide_eq_false h]
    exact (beq_eq_false_iff_ne.mpr e).symm
theorem key_rr (a b : Str) : decide ((Sum.inr a : Key) = Sum.inr b) = decide (a = b) := by
  by_cases e : a = b
  · subst e; simp
  · have h : ¬ (Sum.inr a : Key) = Sum.inr b := fun q => e (Sum.inr.inj q)
    rw [decide_eq_false h, decide_eq_false e]
theorem key_lr (a : Int) (b : Str) : decide ((Sum.inl a : Key) = Sum.inr b) = false := decide_eq_false (fun q => nomatch q)
theorem key_rl (a : Str) (b : Int) : decide ((Sum.inr a : Key) = Sum.inl b) = false := decide_eq_false (fun q => nomatch q)
def mixKind (prog : Program) (w : World) : PySem.KeyKind prog w Key where
  is := keyIs
  hash := keyH w
  inj := fun v a b ha hb => by
    rcases keyIs_shape ha with ⟨i, t, rfl, rfl⟩ | ⟨x, t, rfl, rfl⟩
    · rcases keyIs_shape hb with ⟨j, u, rfl, e⟩ | ⟨y, u, rfl, e⟩
      · injection e with e1 _; rw [e1]
      · exact nomatch e
    · rcases keyIs_shape hb with ⟨j, u, rfl, e⟩ | ⟨y, u, rfl, e⟩
      · exact nomatch e
      · injection e with e1 _; rw [e1]
  byValue := fun k v h => by
    rcases keyIs_shape h with ⟨i, t, rfl, rfl⟩ | ⟨x, t, rfl, rfl⟩ <;> rfl
  pyHash := fun hv h => by
    rcases keyIs_shape hv with ⟨i, t, rfl, rfl⟩ | ⟨x, t, rfl, rfl⟩
    · exact wpAny_pyHash_int h
    · exact wpAny_pyHash_str h
  eqBool := fun hu hv h => by
    rcases keyIs_shape hu with ⟨i, t, rfl, rfl⟩ | ⟨x, t, rfl, rfl⟩
    · rcases keyIs_shape hv with ⟨j, u, rfl, rfl⟩ | ⟨y, u, rfl, rfl⟩
      · rw [key_ll] at h; exact wpAny_eqBool_int h
      · rw [key_lr] at h; exact SeqAt.EqAt.int_str i t y u _ _ _ _ h
    · rcases keyIs_shape hv with ⟨j, u, rfl, rfl⟩ | ⟨y, u, rfl, rfl⟩
      · rw [key_rl] at h; exact SeqAt.EqAt.str_int x t j u _ _ _ _ h
      · rw [key_rr] at h; exact wpAny_eqBool_str h
  «strs» := fun k x t v h => by
    rcases keyIs_shape h with ⟨i, u, rfl, e⟩ | ⟨y, u, rfl, e⟩
    · exact nomatch e
    · injection e with e1 _
      subst e1
      cases v <;> rfl
end L2
namespace L2
open PySem PySem.Spec PyProof.Rows
inductive V where
  | non | bl (b : Bool) | int (i : Int) | str (x : Str) | byt (b : Array UInt8) | flt (b : UInt64) | ref (a : Addr) | ty (n : String)
  deriving DecidableEq
def RelV : V → Value → Prop
  | .non, u => u = Value.none
  | .bl b, u => u = Value.bool b
  | .int i, u => ∃ t, u = Value.int i t
  | .str x, u => ∃ t, u = Value.str x t
  | .byt b, u => ∃ t, u = Value.bytes b t
  | .flt b, u => ∃ t, u = Value.float b t
  | .ref a, u => u = Value.ref a
  | .ty n, u => u = Value.type n
abbrev Vals : List V → List Value → Prop := Paired RelV
theorem Vals.length {xs : List V} {us : List Value} (r : Vals xs us) : xs.length = us.length := Paired.length r
theorem Vals.get : ∀ {xs : List V} {us : List Value} {i : Nat} {x : V}, Vals xs us → xs[i]? = some x → ∃ u, us[i]? = some u ∧ RelV x u
  | _, _, _, _, .nil, e => by simp at e
  | _, _, 0, _, .cons r _, e => by simp at e; subst e; exact ⟨_, rfl, r⟩
  | _, _, i + 1, x, .cons _ t, e => by
    obtain ⟨u, h1, h2⟩ := Vals.get (i := i) (x := x) t (by simpa using e)
    exact ⟨u, by simpa using h1, h2⟩
theorem Vals.set {x : V} {u : Value} (r : RelV x u) : ∀ {xs : List V} {us : List Value} (i : Nat), Vals xs us → Vals (xs.set i x) (us.set i u)
  | _, _, _, .nil => .nil
  | _, _, 0, .cons _ t => .cons r t
  | _, _, i + 1, .cons q t => .cons q (Vals.set r i t)
theorem Vals.append : ∀ {xs ys : List V} {us ws : List Value}, Vals xs us → Vals ys ws → Vals (xs ++ ys) (us ++ ws)
  | _, _, _, _, .nil, s => s
  | _, _, _, _, .cons r t, s => .cons r (Vals.append t s)
theorem Vals.take : ∀ {xs : List V} {us : List Value} (n : Nat), Vals xs us → Vals (xs.take n) (us.take n)
  | _, _, 0, _ => .nil
  | _, _, _ + 1, .nil => .nil
  | _, _, n + 1, .cons r t => .cons r (Vals.take n t)
theorem Vals.drop : ∀ {xs : List V} {us : List Value} (n : Nat), Vals xs us → Vals (xs.drop n) (us.drop n)
  | _, _, 0, r => r
  | _, _, _ + 1, .nil => .nil
  | _, _, n + 1, .cons _ t => Vals.drop n t
def RelO : Option V → Option Value → Prop
  | some v, some u => RelV v u
  | none, none => True
  | _, _ => False
def KV {κ : Type} : List (κ × V) → List (κ × Value) → Prop := Paired fun (p : κ × V) (q : κ × Value) => p.1 = q.1 ∧ RelV p.2 q.2
def kV : Key → V
  | .inl i => .int i
  | .inr x => .str x
inductive HO where
  | lst (xs : List V)
  | tup (xs : List V)
  | dK (kvs : List (Key × V)) | dT (kvs : List (List Key × V))
  | set (S : Int → Bool) (n : Nat)
  | ins (C dx : Addr) (fs : List (Str × V))
  | own (x : Addr)
  | xd (fs : List (Str × V))
  | met (f x : Addr)
  | rng (lo hi : Int)
  | frz (o : Obj) (u : HO)
  | tbl (ps : Array Value)
  | ext (φ : Heap → Prop)
abbrev Hp := Addr → Option HO
def upd (H : Hp) (a : Addr) (o : HO) : Hp := fun b => if b = a then some o else H b
theorem upd_same {H : Hp} {a : Addr} {o : HO} : upd H a o a = some o := by unfold upd; rw [if_pos rfl]
theorem upd_ne {H : Hp} {a b : Addr} {o : HO} (h : b ≠ a) : upd H a o b = H b := by unfold upd; rw [if_neg h]
theorem ne_of_none {H : Hp} {a b : Addr} {o : HO} (h : H a = some o) (h' : H b = none) : a ≠ b := by
  intro e; subst e; rw [h] at h'; cases h'
section
variable (P : Program) (w : World)
def ObjOk (H : Hp) (h : Heap) (a : Addr) : HO → Prop
  | .lst xs => xs.length ≤ sizeLine ∧ ∃ (its : List Value) (n : Nat), Vals xs its ∧ h.get? a = some { cls := .type "list", data := .seq its.toArray n }
  | .tup xs => xs.length ≤ sizeLine ∧ ∃ its : List Value, Vals xs its ∧ IsTup h a its.toArray
  | .dK kvs => kvs.length ≤ sizeLine ∧ (a == sysModules) = false ∧ ∃ vs, KV kvs vs ∧ h.DictOf (mixKind P w) a vs
  | .dT kvs => kvs.length ≤ sizeLine ∧ (a == sysModules) = false ∧ ∃ xs : List (List Key × Addr × Value),
      Paired (fun (p : List Key × V) (q : List Key × Addr × Value) => p.1 = q.1 ∧ H q.2.1 = some (.tup (p.1.map kV)) ∧ RelV p.2 q.2.2) kvs xs ∧
      ∃ o es ep, h.get? a = some o ∧ o.ExactDict ∧ o.data = .dict es ep ∧ es.toList = xs.map (entryOfKey (tupleKind (mixKind P w))) ∧ (xs.map (·.1)).Nodup
  | .set S n => h.SetOf (intKind P w) a S n
  | .ins C dx fs => H dx = some (.own a) ∧ fs.length ≤ 1000 ∧ dx ≠ a ∧ h.get? a = some (PySem.W.instObj C dx) ∧
      ∃ mA, h.Ns1 dx mA ∧ (∀ f, RelO (fs.lookup f) (mA f)) ∧ PySem.Within mA (fs.map (·.1))
  | .own _ => ∃ o, h.get? a = some o
  | .xd fs => ∃ mA, h.Ns1 a mA ∧ ∀ f, RelO (fs.lookup f) (mA f)
  | .rng lo hi => ∃ t u v, h.get? a = some { cls := .type "range", data := .fields #[.int lo t, .int hi u, .int 1 v] }
  | .frz o u => h.get? a = some o ∧ ObjOk H h a u
  | .tbl ps => h.get? a = some { cls := .none, data := .fields ps }
  | .met f x => h.get? a = some (PySem.W.methodObj (.ref f) (.ref x))
  | .ext φ => φ h ∧ (∃ o, h.get? a = some o) ∧ ∀ h1 h2 : Heap, φ h1 → (∀ o, h1.get? a = some o → h2.get? a = some o) → φ h2
def HOk (H : Hp) (h : Heap) : Prop := ∀ a o, H a = some o → ObjOk P w H h a o
end
section
variable {P : Program} {w : World} {H H' : Hp} {h h' : Heap} {a : Addr} {o : HO}
theorem ObjOk.lt (x : ObjOk P w H h a o) : a < h.objs.size := by
  cases o with
  | lst xs => obtain ⟨_, _, _, _, e⟩ := x; exact Heap.lt_size e
  | tup xs => obtain ⟨_, _, _, p⟩ := x; exact p.lt
  | dK kvs => obtain ⟨_, _, _, _, o, _, _, e, _⟩ := x; exact Heap.lt_size e
  | dT kvs => obtain ⟨_, _, _, _, o, _, _, e, _⟩ := x; exact Heap.lt_size e
  | set S n => obtain ⟨o, _, _, _, e, _⟩ := x; exact Heap.lt_size e
  | ins C dx fs => obtain ⟨_, _, _, e, _⟩ := x; exact Heap.lt_size e
  | own y => obtain ⟨_, e⟩ := x; exact Heap.lt_size e
  | xd fs => obtain ⟨_, ⟨_, _, _, e, _⟩, _⟩ := x; exact Heap.lt_size e
  | rng lo hi => obtain ⟨_, _, _, e⟩ := x; exact Heap.lt_size e
  | frz ob u => obtain ⟨e, _⟩ := x; exact Heap.lt_size e
  | tbl ps => exact Heap.lt_size (show h.get? a = some _ from x)
  | met f y => exact Heap.lt_size (show h.get? a = some _ from x)
  | ext φ => obtain ⟨_, ⟨_, e⟩, _⟩ := x; exact Heap.lt_size e
theorem Paired.mapP {α β : Type} {F G : α → β → Prop} : ∀ {l₁ : List α} {l₂ : List β}, Paired F l₁ l₂ → (∀ a b, F a b → G a b) → Paired G l₁ l₂
  | _, _, .nil, _ => .nil
  | _, _, .cons r t, f => .cons (f _ _ r) (Paired.mapP t f)
theorem ObjOk.stay (x : ObjOk P w H h a o) (k : ∀ b u, (b = a ∨ H b = some (.own a)) → h.get? b = some u → h'.get? b = some u)
    (ho : ∀ b, H b = some (.own a) → H' b = some (.own a)) (ht : ∀ b xs, H b = some (.tup xs) → H' b = some (.tup xs)) : ObjOk P w H' h' a o := by
  induction o with
  | lst xs => obtain ⟨z, its, n, r, e⟩ := x; exact ⟨z, its, n, r, k _ _ (.inl rfl) e⟩
  | tup xs => obtain ⟨z, its, r, ob, e, c⟩ := x; exact ⟨z, its, r, ob, k _ _ (.inl rfl) e, c⟩
  | dK kvs => obtain ⟨z, y, vs, r, ob, es, ep, e, c⟩ := x; exact ⟨z, y, vs, r, ob, es, ep, k _ _ (.inl rfl) e, c⟩
  | dT kvs =>
    obtain ⟨z, y, xs, r, ob, es, ep, e, c⟩ := x
    exact ⟨z, y, xs, Paired.mapP r fun p q z => ⟨z.1, ht _ _ z.2.1, z.2.2⟩, ob, es, ep, k _ _ (.inl rfl) e, c⟩
  | set S n => obtain ⟨ob, es, ep, t, e, c⟩ := x; exact ⟨ob, es, ep, t, k _ _ (.inl rfl) e, c⟩
  | ins C dx fs =>
    obtain ⟨d, z, ne, e, mA, ⟨od, es, ep, e2, c⟩, r⟩ := x
    exact ⟨ho _ d, z, ne, k _ _ (.inl rfl) e, mA, ⟨od, es, ep, k _ _ (.inr d) e2, c⟩, r⟩
  | own y => obtain ⟨ob, e⟩ := x; exact ⟨ob, k _ _ (.inl rfl) e⟩
  | xd fs => obtain ⟨mA, ⟨od, es, ep, e, c⟩, r⟩ := x; exact ⟨mA, ⟨od, es, ep, k _ _ (.inl rfl) e, c⟩, r⟩
  | rng lo hi => obtain ⟨t, u, v, e⟩ := x; exact ⟨t, u, v, k _ _ (.inl rfl) e⟩
  | frz ob u ih => obtain ⟨e, q⟩ := x; exact ⟨k _ _ (.inl rfl) e, ih q⟩
  | tbl ps =>
    have e : h.get? a = some { cls := .none, data := .fields ps } := x
    show h'.get? a = some { cls := .none, data := .fields ps }
    exact k a _ (.inl rfl) e
  | met f y =>
    have e : h.get? a = some (PySem.W.methodObj (.ref f) (.ref y)) := x
    show h'.get? a = some (PySem.W.methodObj (.ref f) (.ref y))
    exact k a _ (.inl rfl) e
  | ext φ => obtain ⟨p, ⟨o, e⟩, st⟩ := x; exact ⟨st _ _ p fun o q => k _ _ (.inl rfl) q, ⟨o, k _ _ (.inl rfl) e⟩, st⟩
theorem HOk.lt (x : HOk P w H h) (e : H a = some o) : a < h.objs.size := (x a o e).lt
theorem HOk.fresh (x : HOk P w H h) (e : h.objs.size ≤ a) : H a = none := by
  cases q : H a with
  | none => rfl
  | some u => exact absurd (Nat.lt_of_lt_of_le (x.lt q) e) (Nat.lt_irrefl _)
theorem HOk.kept (x : HOk P w H h) (k : ∀ b u, h.get? b = some u → h'.get? b = some u) : HOk P w H h' := fun a o e =>
  (x a o e).stay (fun b u _ q => k b u q) (fun _ q => q) fun _ _ q => q
theorem HOk.laid (x : HOk P w H h) (k : ∀ b u, h.get? b = some u → h'.get? b = some u) (hp : h.objs.size ≤ a) (new : ObjOk P w (upd H a o) h' a o) : HOk P w (upd H a o) h' := fun b u e => by
  have hn := x.fresh hp
  by_cases hb : b = a
  · subst hb; rw [upd_same] at e; cases e; exact new
  · rw [upd_ne hb] at e
    exact (x b u e).stay (fun c v _ q => k c v q) (fun c q => by rw [upd_ne (ne_of_none q hn)]; exact q) fun c xs q => by rw [upd_ne (ne_of_none q hn)]; exact q
end
def Rd (H : Hp) (a : Addr) (u : HO) : Prop := H a = some u ∨ ∃ o, H a = some (.frz o u)
theorem Rd.ok {P : Program} {w : World} {H : Hp} {h : Heap} {a : Addr} {u : HO} (r : Rd H a u) (x : HOk P w H h) : ObjOk P w H h a u := by
  rcases r with r | ⟨o, r⟩
  · exact x a u r
  · obtain ⟨_, q⟩ := x a _ r
    exact q
def Mut : Option HO → Prop
  | some (.lst _) => True
  | some (.dK _) => True
  | some (.dT _) => True
  | some (.set _ _) => True
  | some (.ins _ _ _) => True
  | some (.ext _) => True
  | _ => False
section
variable {P : Program} {w : World} {H : Hp} {h h' : Heap} {x e : Addr} {o' : HO}
theorem HOk.write (ok : HOk P w H h) (mu : Mut (H x)) (he : e = x ∨ H e = some (.own x)) (k : ∀ b u, b ≠ e → h.get? b = some u → h'.get? b = some u) (heo : ∃ u, h'.get? e = some u)
    (new : ObjOk P w (upd H x o') h' x o') : HOk P w (upd H x o') h' := fun b u q => by
  have nown : ∀ c y, H c = some (.own y) → c ≠ x := fun c y r z => by subst z; rw [r] at mu; exact mu
  have ntup : ∀ c xs, H c = some (.tup xs) → c ≠ x := fun c xs r z => by subst z; rw [r] at mu; exact mu
  by_cases hb : b = x
  · subst hb; rw [upd_same] at q; cases q; exact new
  · rw [upd_ne hb] at q
    by_cases hbe : b = e
    · have q' : H b = some (.own x) := by
        rcases he with z | z
        · exact absurd (hbe.trans z) hb
        · rw [hbe]; exact z
      rw [q] at q'; cases q'
      obtain ⟨v, hv⟩ := heo
      exact ⟨v, by rw [hbe]; exact hv⟩
    · refine (ok b u q).stay (fun c v hc r => k c v ?_ r) (fun c r => by rw [upd_ne (nown c b r)]; exact r) fun c xs r => by rw [upd_ne (ntup c xs r)]; exact r
      rcases hc with rfl | hc
      · exact hbe
      · rintro rfl
        rcases he with z | z
        · exact nown c b hc z
        · rw [hc] at z; cases z; exact hb rfl
end
structure Un (fs ex : List Addr) (H H' : Hp) (h h' : Heap) : Prop where
  keep : ∀ b o, h.get? b = some o → H b = none → b ∉ fs → b ∉ ex → h'.get? b = some o
  slot : ∀ b o, h.get? b = some o → H b = none → b ∈ fs → b ∉ ex → ∃ sl, h'.get? b = some { o with slots := sl }
  free : ∀ b o, h.get? b = some o → H b = none → b ∉ ex → H' b = none
  there : ∀ b o, h.get? b = some o → b ∉ ex → ∃ o', h'.get? b = some o'
  tups : ∀ b xs, H b = some (.tup xs) → H' b = some (.tup xs)
  frzs : ∀ b o u, H b = some (.frz o u) → H' b = some (.frz o u)
  tbls : ∀ b ps, H b = some (.tbl ps) → ∃ more, H' b = some (.tbl (ps ++ more))
section
variable {fs fs' ex ex' : List Addr} {H H1 H2 : Hp} {h h1 h2 h' : Heap} {a x e : Addr} {o : HO}
theorem Un.any (u : Un fs ex H H1 h h1) {b : Addr} {ob : Obj} (q : h.get? b = some ob) (n : H b = none) (hx : b ∉ ex) : ∃ sl, h1.get? b = some { ob with slots := sl } := by
  by_cases hb : b ∈ fs
  · exact u.slot b ob q n hb hx
  · exact ⟨ob.slots, u.keep b ob q n hb hx⟩
theorem Un.kept (k : ∀ b u, h.get? b = some u → h'.get? b = some u) : Un fs ex H H h h' :=
  ⟨fun b ob q _ _ _ => k b ob q, fun b ob q _ _ _ => ⟨ob.slots, k b ob q⟩, fun _ _ _ n _ => n, fun b ob q _ => ⟨ob, k b ob q⟩, fun _ _ q => q, fun _ _ _ q => q, fun _ ps q => ⟨#[], by rw [q]; simp⟩⟩
theorem Un.refl : Un fs ex H H h h := Un.kept fun _ _ q => q
theorem Un.laid (k : ∀ b u, h.get? b = some u → h'.get? b = some u) (hp : h.objs.size ≤ a) (hn : H a = none) : Un fs ex H (upd H a o) h h' where
  keep := fun b u q _ _ _ => k b u q
  slot := fun b u q _ _ _ => ⟨u.slots, k b u q⟩
  free := fun b u q n _ => by rw [upd_ne (Nat.ne_of_lt (Nat.lt_of_lt_of_le (Heap.lt_size q) hp))]; exact n
  there := fun b u q _ => ⟨u, k b u q⟩
  tups := fun b xs q => by rw [upd_ne (ne_of_none q hn)]; exact q
  frzs := fun b u xs q => by rw [upd_ne (ne_of_none q hn)]; exact q
  tbls := fun b ps q => ⟨#[], by rw [upd_ne (ne_of_none q hn), q]; simp⟩
theorem Un.write (mu : Mut (H x)) (he : e = x ∨ H e = some (.own x)) (k : ∀ b u, b ≠ e → h.get? b = some u → h'.get? b = some u) (heo : ∃ u, h'.get? e = some u) : Un fs ex H (upd H x o) h h' := by
  have hx : ∀ b, H b = none → b ≠ x := fun b n z => by subst z; rw [n] at mu; exact mu
  have hb : ∀ b, H b = none → b ≠ e := fun b n z => by
    subst z
    rcases he with r | r
    · exact hx b n r
    · rw [n] at r; cases r
  have hm : ∀ b u, H b = some u → ¬ Mut (some u) → b ≠ x := fun b u q nm z => by subst z; rw [q] at mu; exact nm mu
  refine ⟨fun b u q n _ _ => k b u (hb b n) q, fun b u q n _ _ => ⟨u.slots, k b u (hb b n) q⟩, fun b u q n _ => by rw [upd_ne (hx b n)]; exact n, fun b u q _ => ?_,
    fun b xs q => by rw [upd_ne (hm b _ q fun z => z)]; exact q, fun b u xs q => by rw [upd_ne (hm b _ q fun z => z)]; exact q, fun b ps q => ⟨#[], by rw [upd_ne (hm b _ q fun z => z), q]; simp⟩⟩
  by_cases hbe : b = e
  · subst hbe; exact heo
  · exact ⟨u, k b u hbe q⟩
end
def trk (h : Heap) (H : Hp) : List Addr := (List.range h.objs.size).filter fun a => (H a).isSome
def hidT (h : Heap) (H : Hp) : Heap := PySem.W.hideAll h (trk h H)
theorem hidT_size (h : Heap) (H : Hp) : (hidT h H).objs.size = h.objs.size := PySem.W.hideAll_size _ _
theorem hidT_get {h : Heap} {H : Hp} {b : Addr} {o : Obj} (e : h.get? b = some o) (n : H b = none) : (hidT h H).get? b = some o :=
  PySem.W.hideAll_get _ e fun hm => by
    have q : (H b).isSome = true := (List.mem_filter.mp hm).2
    rw [n] at q; simp at q
theorem of_hidT {h : Heap} {H : Hp} {b : Addr} {o : Obj} (e : (hidT h H).get? b = some o) : h.get? b = some o ∧ H b = none := by
  have e' : h.get? b = some o := PySem.W.of_hideAll (trk h H) e
  refine ⟨e', ?_⟩
  cases q : H b with
  | none => rfl
  | some x =>
    have hm : b ∈ trk h H := List.mem_filter.mpr ⟨List.mem_range.mpr (Heap.lt_size e'), by simp [q]⟩
    have z : (hidT h H).get? b = none := PySem.W.hideAll_none (trk h H) hm
    rw [z] at e; cases e
def allNews (g h : Heap) (L : Addr) : List (Addr × Obj) := (List.range h.objs.size).filterMap fun a => if a = L ∨ (g.get? a).isSome = true then none else (h.get? a).map fun o => (a, o)
def rest (g h : Heap) (L d : Addr) : List (Addr × Obj) := (allNews g h L).filter fun p => decide (p.1 ≠ d)
end L2
namespace L2
open PySem PySem.Spec PyProof.Rows
structure Mod (K : PySem.W.Frag) (mg : Str → Option Value) (base : Heap) : Prop where
  kin : K.In base
  glob : base.Ns mainGlobals mg
  blt : ∃ mb, base.Ns builtinsNs mb ∧ ∀ x : Str, x ≠ "__name__" → mb x = bootBuiltins x
  nolimit : base.NoLimit
structure Cx where
  prog : Program
  w : World
  K : PySem.W.Frag
  mg : Str → Option Value
  base : Heap
  A : Around
  N : List Str
  s₀ : Shared
  H₀ : Hp
  env : Env
  outer : List Env
  stack : List Env
  ex : List Addr
  fn : Str → Bool
  calm : Bool
  pn : List (Addr × Obj)
  xe : Value → Shared → Prop
def frs (l : List Env) : List Addr := l.filterMap (·.frame)
abbrev Cx.fs (X : Cx) : List Addr := frs X.outer
def Vis (sc : Scope) (x : Str) : Prop := sc.names.lookup x = some .local ∨ sc.names.lookup x = some .cell ∨ sc.names.lookup x = some .free
def Loc (sc : Scope) (x : Str) : Prop := sc.names.lookup x = some .local ∨ sc.names.lookup x = some .cell
def Look (env : Env) (h : Heap) (m : Str → Option Value) (x : Str) (u : Value) : Prop :=
  (env.kindOf x = some .local ∧ m x = some u) ∨ ((env.kindOf x = some .cell ∨ env.kindOf x = some .free) ∧ ∃ c, env.cells.lookup x = some c ∧ h.IsCell c (some u))
structure Cx.Ok (X : Cx) : Prop where
  mod : Mod X.K X.mg X.base
  kind : X.env.scope.kind = .function
  glob : X.env.globals = mainGlobals
  blt : X.env.builtins = builtinsNs
  above : X.s₀.heap.objs.size ≤ X.env.locals
  inj : ∀ x y c, X.env.cells.lookup x = some c → X.env.cells.lookup y = some c → x = y
  has : ∀ x, (X.env.kindOf x = some .cell ∨ X.env.kindOf x = some .free) → ∃ c, X.env.cells.lookup x = some c
  cab : ∀ x c, X.fn x = true → X.env.cells.lookup x = some c → X.s₀.heap.objs.size ≤ c
  hd : X.calm = true → X.A.handled = none
  frames : X.A.frames = some X.stack
  stk : X.stack = X.outer ∨ (X.stack = X.env :: X.outer ∧ X.env.frame = some X.env.locals)
  exf : ∀ b ∈ X.ex, b ≠ X.env.locals ∧ ∀ x c, X.env.cells.lookup x = some c → c ≠ b
  bs : ∀ b o, X.base.get? b = some o → X.s₀.heap.get? b = some o ∧ X.H₀ b = none
  bsz : X.base.objs.size ≤ X.s₀.heap.objs.size
  noex : ∀ b o, X.base.get? b = some o → b ∉ X.ex
  exfs : ∀ b ∈ X.ex, b ∉ X.fs
  funs : X.s₀.heap.FunFrames X.base X.outer
  frf : ∀ b ∈ X.fs, X.H₀ b = none
structure Inv (X : Cx) (pins : List (Addr × Obj)) (σ : List (Option V)) (H : Hp) (s : Shared) : Prop where
  ok : X.Ok
  os : s.os = X.s₀.os
  bare : AllBare s.gens
  base : Un X.fs X.ex X.H₀ H X.s₀.heap s.heap
  loc : ∃ m, s.heap.Ns X.env.locals m ∧ ∀ (i : Nat) (x : Str) (v : V), X.N[i]? = some x → σ[i]? = some (some v) → Vis X.env.scope x → ∃ u, RelV v u ∧ Look X.env s.heap m x u
  cell : ∀ x c, X.env.cells.lookup x = some c → ∃ v, s.heap.IsCell c v
  free : H X.env.locals = none
  freeC : ∀ x c, X.env.cells.lookup x = some c → H c = none
  pin : ∀ p ∈ X.pn ++ pins, s.heap.get? p.1 = some p.2 ∧ H p.1 = none ∧ p.1 ≠ X.env.locals ∧ p.1 ∉ X.fs ∧ ∀ v, p.2.data ≠ .cell v
  hok : HOk X.prog X.w H s.heap
  len : σ.length = X.N.length
section
variable {X : Cx} {pins : List (Addr × Obj)} {σ : List (Option V)} {H H' : Hp} {s : Shared} {h' : Heap}
theorem Cx.Ok.nofr (ok : X.Ok) {b : Addr} {o : Obj} (e : X.base.get? b = some o) : b ∉ X.fs := fun hb => by
  have := (ok.funs.mem hb).1
  rw [e] at this; cases this
theorem Inv.bs (I : Inv X pins σ H s) : ∀ b o, X.base.get? b = some o → s.heap.get? b = some o ∧ H b = none := fun b o e =>
  ⟨I.base.keep b o (I.ok.bs b o e).1 (I.ok.bs b o e).2 (I.ok.nofr e) (I.ok.noex b o e), I.base.free b o (I.ok.bs b o e).1 (I.ok.bs b o e).2 (I.ok.noex b o e)⟩
theorem Inv.bk (I : Inv X pins σ H s) : ∀ b o, X.base.get? b = some o → s.heap.get? b = some o := fun b o e => (I.bs b o e).1
theorem Inv.mod (I : Inv X pins σ H s) : Mod X.K X.mg X.base := I.ok.mod
theorem Inv.kIn (I : Inv X pins σ H s) : X.K.In s.heap := I.ok.mod.kin.keeps I.bk
theorem Inv.lt (I : Inv X pins σ H s) : X.env.locals < s.heap.objs.size := let ⟨_, hn, _⟩ := I.loc; hn.lt
theorem Inv.sz (I : Inv X pins σ H s) : X.s₀.heap.objs.size ≤ s.heap.objs.size := Nat.le_trans I.ok.above (Nat.le_of_lt I.lt)
theorem Inv.nofs (I : Inv X pins σ H s) {a : Addr} (h : s.heap.objs.size ≤ a) : a ∉ X.fs := fun hb => by
  obtain ⟨_, o, ho, _⟩ := I.ok.funs.mem hb
  exact absurd (Nat.lt_of_lt_of_le (Heap.lt_size ho) (Nat.le_trans I.sz h)) (Nat.lt_irrefl _)
theorem Inv.cne (I : Inv X pins σ H s) : ∀ x c, X.env.cells.lookup x = some c → c ≠ X.env.locals := fun x c e z => by
  obtain ⟨v, o, ho, hd⟩ := I.cell x c e
  obtain ⟨m, ⟨o', es, ep, ho', hd', _⟩, _⟩ := I.loc
  rw [z, ho'] at ho; cases ho; rw [hd'] at hd; cases hd
theorem Inv.funs (I : Inv X pins σ H s) : s.heap.FunFrames X.base X.outer := by
  have all : ∀ (l : List Env), (∀ b ∈ frs l, b ∈ X.fs) → X.s₀.heap.FunFrames X.base l → s.heap.FunFrames X.base l := by
    intro l
    induction l with
    | nil => intro _ _; trivial
    | cons env r ih =>
      intro hs hl
      obtain ⟨hk, ⟨L, o, hf, hn, ho, hd⟩, hr⟩ := hl
      have hL : L ∈ X.fs := hs L (by unfold frs; rw [List.filterMap_cons, hf]; exact List.mem_cons_self)
      obtain ⟨sl, e⟩ := I.base.slot L o ho (I.ok.frf L hL) hL fun z => I.ok.exfs L z hL
      exact ⟨hk, ⟨L, _, hf, hn, e, hd⟩, ih (fun b hb => hs b (by unfold frs; rw [List.filterMap_cons, hf]; exact List.mem_cons_of_mem _ hb)) hr⟩
  exact all X.outer (fun _ hb => hb) I.ok.funs
theorem Inv.stack (I : Inv X pins σ H s) : s.heap.FunFrames X.base X.stack := by
  rcases I.ok.stk with e | ⟨e, hf⟩
  · rw [e]; exact I.funs
  · rw [e]
    obtain ⟨m, hn, _⟩ := I.loc
    refine .cons (by rw [I.ok.kind]; decide) hf hn ?_ I.funs
    exact Heap.get?_none_of_le (Nat.le_trans I.ok.bsz I.ok.above)
theorem Inv.stkSub (I : Inv X pins σ H s) : ∀ b ∈ frs X.stack, b ∈ X.env.locals :: X.fs := fun b hb => by
  rcases I.ok.stk with e | ⟨e, hf⟩
  · rw [e] at hb; exact List.mem_cons_of_mem _ hb
  · rw [e] at hb
    unfold frs at hb
    rw [List.filterMap_cons, hf] at hb
    exact hb
theorem Inv.stkFree (I : Inv X pins σ H s) : ∀ b ∈ frs X.stack, H b = none := fun b hb => by
  rcases List.mem_cons.mp (I.stkSub b hb) with e | hb
  · rw [e]; exact I.free
  · obtain ⟨_, o, ho, _⟩ := I.ok.funs.mem hb
    exact I.base.free b o ho (I.ok.frf b hb) fun z => I.ok.exfs b z hb
theorem Inv.step {g' : Array GenState} {t' : Nat} {d' : Drawn} {ch : List Addr} (I : Inv X pins σ H s)
    (hch : ∀ b ∈ ch, (b ∈ X.ex ∨ X.s₀.heap.get? b = none) ∧ b ≠ X.env.locals ∧ (∀ x c, X.env.cells.lookup x = some c → c ≠ b) ∧ ∀ p ∈ X.pn ++ pins, p.1 ≠ b)
    (keep : ∀ b o, b ≠ X.env.locals → b ∉ X.fs → b ∉ ch → s.heap.get? b = some o → H b = none → h'.get? b = some o)
    (slot : ∀ b o, b ≠ X.env.locals → b ∈ X.fs → b ∉ ch → s.heap.get? b = some o → H b = none → ∃ sl, h'.get? b = some { o with slots := sl }) (free : ∀ b o, b ∉ ch → s.heap.get? b = some o → H b = none → H' b = none)
    (there : ∀ b o, b ∉ ch → s.heap.get? b = some o → ∃ o', h'.get? b = some o')
    (tups : ∀ b xs, H b = some (.tup xs) → H' b = some (.tup xs)) (frzs : ∀ b o u, H b = some (.frz o u) → H' b = some (.frz o u)) (tbls : ∀ b ps, H b = some (.tbl ps) → ∃ more, H' b = some (.tbl (ps ++ more)))
    (ns : ∀ m, s.heap.Ns X.env.locals m → h'.Ns X.env.locals m) (hok : HOk X.prog X.w H' h') (hg : AllBare g') :
    Inv X pins σ H' { s with heap := h', gens := g', drawn := d', toks := t' } := by
  have neL : ∀ b o, X.s₀.heap.get? b = some o → b ≠ X.env.locals := fun b o e => Nat.ne_of_lt (Nat.lt_of_lt_of_le (Heap.lt_size e) I.ok.above)
  have neC : ∀ b o, X.s₀.heap.get? b = some o → b ∉ X.ex → b ∉ ch := fun b o e hx hb => by
    rcases (hch b hb).1 with z | z
    · exact hx z
    · rw [z] at e; cases e
  have cellK : ∀ x c, X.env.cells.lookup x = some c → ∀ v, s.heap.IsCell c v → h'.IsCell c v := fun x c e v ⟨o, ho, hd⟩ => by
    have nch : c ∉ ch := fun z => (hch c z).2.2.1 x c e rfl
    by_cases hc : c ∈ X.fs
    · obtain ⟨sl, q⟩ := slot c o (I.cne x c e) hc nch ho (I.freeC x c e)
      exact ⟨_, q, hd⟩
    · exact ⟨o, keep c o (I.cne x c e) hc nch ho (I.freeC x c e), hd⟩
  refine ⟨I.ok, I.os, hg, ⟨fun b o e n hb hx => ?_, fun b o e n hb hx => ?_, fun b o e n hx => ?_, fun b o e hx => ?_, fun b xs e => tups b xs (I.base.tups b xs e), fun b o xs e => frzs b o xs (I.base.frzs b o xs e), fun b ps e => ?_⟩, ?_, fun x c e => ?_, ?_, fun x c e => ?_, fun p hp => ?_, hok, I.len⟩
  · exact keep b o (neL b o e) hb (neC b o e hx) (I.base.keep b o e n hb hx) (I.base.free b o e n hx)
  · obtain ⟨sl, e1⟩ := I.base.slot b o e n hb hx
    obtain ⟨sl', e2⟩ := slot b _ (neL b o e) hb (neC b o e hx) e1 (I.base.free b o e n hx)
    exact ⟨sl', e2⟩
  · obtain ⟨o', e1⟩ := I.base.there b o e hx
    exact free b o' (neC b o e hx) e1 (I.base.free b o e n hx)
  · obtain ⟨o', e1⟩ := I.base.there b o e hx
    exact there b o' (neC b o e hx) e1
  · obtain ⟨m1, e1⟩ := I.base.tbls b ps e
    obtain ⟨m2, e2⟩ := tbls b _ e1
    exact ⟨m1 ++ m2, by rw [e2, Array.append_assoc]⟩
  · obtain ⟨m, hn, hl⟩ := I.loc
    refine ⟨m, ns m hn, fun i x v e1 e2 e3 => ?_⟩
    obtain ⟨u, r, l⟩ := hl i x v e1 e2 e3
    refine ⟨u, r, ?_⟩
    rcases l with l | ⟨k, c, e, z⟩
    · exact .inl l
    · exact .inr ⟨k, c, e, cellK x c e _ z⟩
  · obtain ⟨v, z⟩ := I.cell x c e
    exact ⟨v, cellK x c e v z⟩
  · obtain ⟨m, ⟨o, _, _, ho, _⟩, _⟩ := I.loc
    exact free _ o (fun z => (hch _ z).2.1 rfl) ho I.free
  · obtain ⟨v, o, ho, hd⟩ := I.cell x c e
    exact free c o (fun z => (hch c z).2.2.1 x c e rfl) ho (I.freeC x c e)
  · obtain ⟨e, n, ne, nf, d⟩ := I.pin p hp
    have nch : p.1 ∉ ch := fun z => (hch p.1 z).2.2.2 p hp rfl
    exact ⟨keep p.1 p.2 ne nf nch e n, free p.1 p.2 nch e n, ne, nf, d⟩
theorem Inv.un {t' : Nat} (I : Inv X pins σ H s) (u : Un X.fs [] H H' s.heap h') (hok : HOk X.prog X.w H' h') : Inv X pins σ H' { s with heap := h', toks := t' } := by
  obtain ⟨m, ⟨o, es, ep, ho, r⟩, _⟩ := id I.loc
  obtain ⟨sl, hL⟩ := u.any ho I.free (by simp)
  exact I.step (g' := s.gens) (d' := s.drawn) (ch := []) (fun _ z => nomatch z) (fun b o _ hb _ e n => u.keep b o e n hb (by simp)) (fun b o _ hb _ e n => u.slot b o e n hb (by simp)) (fun b o _ e n => u.free b o e n (by simp)) (fun b o _ e => u.there b o e (by simp)) u.tups u.frzs u.tbls (fun m' hm => by
    obtain ⟨o', es', ep', ho', r'⟩ := hm
    rw [ho] at ho'; cases ho'
    exact ⟨_, es', ep', hL, r'⟩) hok I.bare
theorem Inv.call {g' : Array GenState} {t' : Nat} {d' : Drawn} {ch : List Addr} (I : Inv X pins σ H s) (u : Un (frs X.stack) ch H H' s.heap h') (hok : HOk X.prog X.w H' h') (hg : AllBare g')
    (hch : ∀ b ∈ ch, (b ∈ X.ex ∨ X.s₀.heap.get? b = none) ∧ b ≠ X.env.locals ∧ (∀ x c, X.env.cells.lookup x = some c → c ≠ b) ∧ ∀ p ∈ X.pn ++ pins, p.1 ≠ b) :
    Inv X pins σ H' { s with heap := h', gens := g', drawn := d', toks := t' } := by
  obtain ⟨m, ⟨o, es, ep, ho, r⟩, _⟩ := id I.loc
  obtain ⟨sl, hL⟩ := u.any ho I.free fun z => (hch _ z).2.1 rfl
  exact I.step (ch := ch) hch (fun b o hL hb hc e n => u.keep b o e n (fun z => (List.mem_cons.mp (I.stkSub b z)).elim hL hb) hc) (fun b o _ _ hc e n => u.any e n hc) (fun b o hc e n => u.free b o e n hc) (fun b o hc e => u.there b o e hc) u.tups u.frzs u.tbls (fun m' hm => by
    obtain ⟨o', es', ep', ho', r'⟩ := hm
    rw [ho] at ho'; cases ho'
    exact ⟨_, es', ep', hL, r'⟩) hok hg
theorem Inv.turned {t' : Nat} {it : Addr} (I : Inv X pins σ H s) (k : ∀ b o, b ≠ it → s.heap.get? b = some o → h'.get? b = some o) (hn : H it = none) (hL : it ≠ X.env.locals)
    (h1 : it ∈ X.ex ∨ X.s₀.heap.get? it = none) (h2 : ∀ x c, X.env.cells.lookup x = some c → c ≠ it) (h3 : ∀ p ∈ X.pn ++ pins, p.1 ≠ it) : Inv X pins σ H { s with heap := h', toks := t' } := by
  have nit : ∀ b u, H b = some u → b ≠ it := fun b u e z => by rw [z, hn] at e; cases e
  refine I.step (g' := s.gens) (d' := s.drawn) (ch := [it]) (fun b hb => ?_) (fun b o _ _ hc e _ => k b o (fun z => hc (by simp [z])) e) (fun b o _ _ hc e _ => ⟨o.slots, k b o (fun z => hc (by simp [z])) e⟩) (fun _ _ _ _ n => n)
    (fun b o hc e => ⟨o, k b o (fun z => hc (by simp [z])) e⟩) (fun _ _ e => e) (fun _ _ _ e => e) (fun b ps e => ⟨#[], by rw [e]; simp⟩) (fun m hm => ?_) (fun b u e => ?_) I.bare
  · have e : b = it := by simpa using hb
    subst e
    exact ⟨h1, hL, h2, h3⟩
  · obtain ⟨o, es, ep, ho, r⟩ := hm
    exact ⟨o, es, ep, k _ o (Ne.symm hL) ho, r⟩
  · refine (I.hok b u e).stay (fun c v hc q => k c v ?_ q) (fun _ q => q) fun _ _ q => q
    rcases hc with z | z
    · rw [z]; exact nit b u e
    · exact nit c _ z
theorem Inv.tok (I : Inv X pins σ H s) (t : Nat) : Inv X pins σ H { s with toks := t } := I.un (h' := s.heap) (t' := t) Un.refl I.hok
theorem Inv.kept {t' : Nat} (I : Inv X pins σ H s) (k : ∀ b u, s.heap.get? b = some u → h'.get? b = some u) : Inv X pins σ H { s with heap := h', toks := t' } := I.un (Un.kept k) (I.hok.kept k)
theorem Inv.laid {a : Addr} {o : HO} {t' : Nat} (I : Inv X pins σ H s) (k : ∀ b u, s.heap.get? b = some u → h'.get? b = some u) (hp : s.heap.objs.size ≤ a) (new : ObjOk X.prog X.w (upd H a o) h' a o) :
    Inv X pins σ (upd H a o) { s with heap := h', toks := t' } := I.un (Un.laid k hp (I.hok.fresh hp)) (I.hok.laid k hp new)
theorem Inv.write {x e : Addr} {o : HO} {t' : Nat} (I : Inv X pins σ H s) (mu : Mut (H x)) (he : e = x ∨ H e = some (.own x)) (k : ∀ b u, b ≠ e → s.heap.get? b = some u → h'.get? b = some u) (heo : ∃ u, h'.get? e = some u)
    (new : ObjOk X.prog X.w (upd H x o) h' x o) : Inv X pins σ (upd H x o) { s with heap := h', toks := t' } := I.un (Un.write mu he k heo) (I.hok.write mu he k heo new)
theorem Inv.pins_of {pins' : List (Addr × Obj)} (I : Inv X pins σ H s) (h : ∀ p ∈ pins', s.heap.get? p.1 = some p.2 ∧ H p.1 = none ∧ p.1 ≠ X.env.locals ∧ p.1 ∉ X.fs ∧ ∀ v, p.2.data ≠ .cell v) : Inv X pins' σ H s :=
  ⟨I.ok, I.os, I.bare, I.base, I.loc, I.cell, I.free, I.freeC, fun p hp => (List.mem_append.mp hp).elim (fun z => I.pin p (List.mem_append_left _ z)) (h p), I.hok, I.len⟩
theorem nodup_ix {N : List Str} (hN : N.Nodup) {i j : Nat} {x : Str} (a : N[i]? = some x) (b : N[j]? = some x) : i = j := by
  obtain ⟨h1, e1⟩ := List.getElem?_eq_some_iff.mp a
  obtain ⟨h2, e2⟩ := List.getElem?_eq_some_iff.mp b
  exact (List.getElem_inj hN).mp (e1.trans e2.symm)
theorem store_ok2 {M : Model} {A : Around} {E : Value → Shared → Prop} {i : Nat} {x : Str} {v : V} {u : Value} {Q : Unit → Shared → Prop} (I : Inv X pins σ H s) (hN : X.N.Nodup) (hi : X.N[i]? = some x) (hx : Loc X.env.scope x) (r : RelV v u)
    (h : ∀ s', Inv X pins (σ.set i (some v)) H s' → (∃ a, Heap.SameBut a s.heap s'.heap ∧ (a = X.env.locals ∨ X.env.cells.lookup x = some a)) → Q () s') (hf : X.fn x = true ∨ X.env.scope.names.lookup x = some .local := by first | exact .inl rfl | exact .inr rfl | assumption) : wpAny M A (storeName X.env x u) Q E s := by
  obtain ⟨m, hn, hl⟩ := id I.loc
  have hcls : (X.env.scope.kind == .class || (X.env.scope.kind == .module && X.env.locals != X.env.globals)) = false := by rw [I.ok.kind]; rfl
  have hiσ : i < σ.length := by rw [I.len]; exact (List.getElem?_eq_some_iff.mp hi).1
  have cne := I.cne
  have tracked : ∀ {a : Addr} {h' : Heap}, (∃ o, s.heap.get? a = some o ∧ H a = none) → Heap.SameBut a s.heap h' → HOk X.prog X.w H h' := fun {a h'} ha hs b ob e => by
    obtain ⟨_, _, hfree⟩ := ha
    refine (I.hok b ob e).stay (fun c w' hc q => (hs.2 c ?_).trans q) (fun _ q => q) fun _ _ q => q
    rintro rfl
    rcases hc with rfl | hc
    · rw [hfree] at e; cases e
    · rw [hfree] at hc; cases hc
  rcases hx with hk | hk
  · refine wpAny_storeName_local hk hn (fun h' hn' hs => ?_) hcls
    obtain ⟨oL, _, _, hoL, _⟩ := id hn
    refine h _ ⟨I.ok, I.os, I.bare, ⟨fun b o e n hb hx => ?_, fun b o e n hb hx => ?_, I.base.free, fun b o e hx => ?_, I.base.tups, I.base.frzs, I.base.tbls⟩, ⟨_, hn', fun j y v' e1 e2 e3 => ?_⟩, fun y c e => ?_, I.free, I.freeC, fun p hp => ?_, tracked ⟨oL, hoL, I.free⟩ hs, by simpa using I.len⟩ ⟨_, hs, .inl rfl⟩
    · exact (hs.2 b (Nat.ne_of_lt (Nat.lt_of_lt_of_le (Heap.lt_size e) I.ok.above))).trans (I.base.keep b o e n hb hx)
    · obtain ⟨sl, e1⟩ := I.base.slot b o e n hb hx
      exact ⟨sl, (hs.2 b (Nat.ne_of_lt (Nat.lt_of_lt_of_le (Heap.lt_size e) I.ok.above))).trans e1⟩
    · obtain ⟨o', e1⟩ := I.base.there b o e hx
      exact ⟨o', (hs.2 b (Nat.ne_of_lt (Nat.lt_of_lt_of_le (Heap.lt_size e) I.ok.above))).trans e1⟩
    · by_cases hj : j = i
      · subst hj
        rw [hi] at e1; cases e1
        rw [List.getElem?_set_self hiσ] at e2
        cases e2
        exact ⟨u, r, .inl ⟨hk, by simp⟩⟩
      · rw [List.getElem?_set_ne (Ne.symm hj)] at e2
        obtain ⟨u', r', q⟩ := hl j y v' e1 e2 e3
        refine ⟨u', r', ?_⟩
        rcases q with ⟨k, e⟩ | ⟨k, c, e, z⟩
        · refine .inl ⟨k, ?_⟩
          have : y ≠ x := fun e => hj (nodup_ix hN e1 (e ▸ hi))
          simp [this, e]
        · exact .inr ⟨k, c, e, z.sameBut hs (cne y c e)⟩
    · obtain ⟨w', z⟩ := I.cell y c e
      exact ⟨w', z.sameBut hs (cne y c e)⟩
    · obtain ⟨e, n, ne, nf, d⟩ := I.pin p hp
      exact ⟨(hs.2 p.1 ne).trans e, n, ne, nf, d⟩
  · have hfn : X.fn x = true := by
      rcases hf with z | z
      · exact z
      · rw [z] at hk; cases hk
    obtain ⟨c, hc⟩ := I.ok.has x (.inl hk)
    obtain ⟨w', z⟩ := I.cell x c hc
    refine wpAny_storeName_cell I.ok.kind hk hc z (fun h' hc' hs => ?_)
    obtain ⟨oc, hoc, hocd⟩ := id z
    refine h { s with heap := h' } ⟨I.ok, I.os, I.bare, ⟨fun b o e n hb hx => ?_, fun b o e n hb hx => ?_, I.base.free, fun b o e hx => ?_, I.base.tups, I.base.frzs, I.base.tbls⟩, ⟨m, hn.sameBut hs (Ne.symm (cne x c hc)), fun j y v' e1 e2 e3 => ?_⟩, fun y c' e => ?_, I.free, I.freeC, fun p hp => ?_, tracked ⟨oc, hoc, I.freeC x c hc⟩ hs, by simpa using I.len⟩ ⟨c, hs, .inr hc⟩
    · exact (hs.2 b (Nat.ne_of_lt (Nat.lt_of_lt_of_le (Heap.lt_size e) (I.ok.cab x c hfn hc)))).trans (I.base.keep b o e n hb hx)
    · obtain ⟨sl, e1⟩ := I.base.slot b o e n hb hx
      exact ⟨sl, (hs.2 b (Nat.ne_of_lt (Nat.lt_of_lt_of_le (Heap.lt_size e) (I.ok.cab x c hfn hc)))).trans e1⟩
    · obtain ⟨o', e1⟩ := I.base.there b o e hx
      exact ⟨o', (hs.2 b (Nat.ne_of_lt (Nat.lt_of_lt_of_le (Heap.lt_size e) (I.ok.cab x c hfn hc)))).trans e1⟩
    · by_cases hj : j = i
      · subst hj
        rw [hi] at e1; cases e1
        rw [List.getElem?_set_self hiσ] at e2
        cases e2
        exact ⟨u, r, .inr ⟨.inl hk, c, hc, hc'⟩⟩
      · rw [List.getElem?_set_ne (Ne.symm hj)] at e2
        obtain ⟨u', r', q⟩ := hl j y v' e1 e2 e3
        refine ⟨u', r', ?_⟩
        rcases q with q | ⟨k, c', e, z'⟩
        · exact .inl q
        · refine .inr ⟨k, c', e, z'.sameBut hs ?_⟩
          rintro rfl
          exact hj (nodup_ix hN e1 (I.ok.inj _ _ _ e hc ▸ hi))
    · by_cases hcc : c' = c
      · subst hcc; exact ⟨_, hc'⟩
      · obtain ⟨w2, z2⟩ := I.cell y c' e
        exact ⟨w2, z2.sameBut hs hcc⟩
    · obtain ⟨e, n, ne, nf, d⟩ := I.pin p hp
      refine ⟨(hs.2 p.1 ?_).trans e, n, ne, nf, d⟩
      intro q
      rw [q, hoc] at e
      have q' : oc = p.2 := Option.some.inj e
      exact d w' (by rw [← q']; exact hocd)
theorem store_ok {M : Model} {A : Around} {E : Value → Shared → Prop} {i : Nat} {x : Str} {v : V} {u : Value} {Q : Unit → Shared → Prop} (I : Inv X pins σ H s) (hN : X.N.Nodup) (hi : X.N[i]? = some x) (hx : Loc X.env.scope x) (r : RelV v u)
    (h : ∀ s', Inv X pins (σ.set i (some v)) H s' → Q () s') (hf : X.fn x = true ∨ X.env.scope.names.lookup x = some .local := by first | exact .inl rfl | exact .inr rfl | assumption) : wpAny M A (storeName X.env x u) Q E s :=
  store_ok2 I hN hi hx r (fun s' I' _ => h s' I') hf
theorem Inv.call' {s' : Shared} {ch : List Addr} (I : Inv X pins σ H s) (ho : s'.os = s.os) (u : Un (frs X.stack) ch H H' s.heap s'.heap) (hok : HOk X.prog X.w H' s'.heap) (hg : AllBare s'.gens)
    (hch : ∀ b ∈ ch, (b ∈ X.ex ∨ X.s₀.heap.get? b = none) ∧ b ≠ X.env.locals ∧ (∀ x c, X.env.cells.lookup x = some c → c ≠ b) ∧ ∀ p ∈ X.pn ++ pins, p.1 ≠ b) : Inv X pins σ H' s' := by
  obtain ⟨h', g', d', t', o'⟩ := s'
  have e : o' = s.os := ho
  subst e
  exact I.call (g' := g') (t' := t') (d' := d') u hok hg hch
end
abbrev XK := Value → Option Addr → Hp → Prop
abbrev St := List (Option V)
abbrev VK := V → Hp → Prop
abbrev TE := St → Hp → VK → Prop
abbrev TT := St → Hp → (Bool → Hp → Prop) → Prop
abbrev TA := St → Hp → (List V → Hp → Prop) → Prop
structure Ends where
  nx : St → Hp → Prop
  rt : VK
  bk : St → Hp → Prop := fun _ _ => False
  ct : St → Hp → Prop := fun _ _ => False
abbrev TS := Ends → St → Hp → Prop
def EP (X : Cx) (pins : List (Addr × Obj)) (σ : St) (Q : VK) (u : Value) (s' : Shared) : Prop := ∃ v H', Inv X pins σ H' s' ∧ RelV v u ∧ Q v H'
def TP (X : Cx) (pins : List (Addr × Obj)) (σ : St) (Q : Bool → Hp → Prop) (b : Bool) (s' : Shared) : Prop := ∃ H', Inv X pins σ H' s' ∧ Q b H'
def AP (X : Cx) (pins : List (Addr × Obj)) (σ : St) (Q : List V → Hp → Prop) (us : List Value) (s' : Shared) : Prop := ∃ vs H', Inv X pins σ H' s' ∧ Vals vs us ∧ Q vs H'
def SP (X : Cx) (pins : List (Addr × Obj)) (D : Ends) (f : Flow) (s' : Shared) : Prop :=
  match f with
  | .next => ∃ σ' H', Inv X pins σ' H' s' ∧ D.nx σ' H'
  | .brk => ∃ σ' H', Inv X pins σ' H' s' ∧ D.bk σ' H'
  | .cont => ∃ σ' H', Inv X pins σ' H' s' ∧ D.ct σ' H'
  | .ret u => ∃ v σ' H', Inv X pins σ' H' s' ∧ RelV v u ∧ D.rt v H'
def PE (X : Cx) (e : Expr) (t : TE) : Prop :=
  ∀ (pins : List (Addr × Obj)) (s : Shared) (σ : St) (H : Hp) (Q : VK), Inv X pins σ H s → t σ H Q → wpAny (model X.prog X.w) X.A (eval e X.env) (EP X pins σ Q) X.xe s
def PT (X : Cx) (e : Expr) (t : TT) : Prop :=
  ∀ (pins : List (Addr × Obj)) (s : Shared) (σ : St) (H : Hp) (Q : Bool → Hp → Prop), Inv X pins σ H s → t σ H Q → wpAny (model X.prog X.w) X.A (isTrue e X.env (eval e X.env)) (TP X pins σ Q) X.xe s
def PW (X : Cx) (e : Expr) (t : TT) : Prop :=
  ∀ (whole : Sem Value) (pins : List (Addr × Obj)) (s : Shared) (σ : St) (H : Hp) (Q : Bool → Hp → Prop), Inv X pins σ H s → t σ H Q → wpAny (model X.prog X.w) X.A (isTrue e X.env whole) (TP X pins σ Q) X.xe s
theorem PW.pt {X : Cx} {e : Expr} {t : TT} (h : PW X e t) : PT X e t := h _
def PA (X : Cx) (es : List Expr) (t : TA) : Prop :=
  ∀ (pos : Pos) (pins : List (Addr × Obj)) (s : Shared) (σ : St) (H : Hp) (Q : List V → Hp → Prop), Inv X pins σ H s → t σ H Q → wpAny (model X.prog X.w) X.A (spliced (backTo pos (starEach es X.env))) (AP X pins σ Q) X.xe s
def PS (X : Cx) (st : Stmt) (t : TS) : Prop :=
  ∀ (pins : List (Addr × Obj)) (s : Shared) (σ : St) (H : Hp) (D : Ends), Inv X pins σ H s → t D σ H → wpAny (model X.prog X.w) X.A (exec st X.env) (SP X pins D) X.xe s
def PSs (X : Cx) (st : List Stmt) (t : TS) : Prop :=
  ∀ (pins : List (Addr × Obj)) (s : Shared) (σ : St) (H : Hp) (D : Ends), Inv X pins σ H s → t D σ H → wpAny (model X.prog X.w) X.A (execs st X.env) (SP X pins D) X.xe s
theorem thn {α : Type} {t : Sem α} {Q Q' : α → Shared → Prop} {M : Model} {A : Around} {E : Value → Shared → Prop} {s : Shared} (h : wpAny M A t Q E s) (hQ : ∀ a s, Q a s → Q' a s) : wpAny M A t Q' E s := wpAny_mono h hQ fun _ _ x => x
end L2
namespace L2
open PySem PySem.Spec PyProof.Rows
section
variable {X : Cx}
def tVar (i : Nat) : TE := fun σ H Q => ∃ v, σ[i]? = some (some v) ∧ Q v H
def tC (v : V) : TE := fun _ H Q => Q v H
theorem pe_var {i : Nat} {x : Str} {pos : Pos} (hN : X.N[i]? = some x) (hv : Vis X.env.scope x) (hd : (x == ("__debug__" : Str)) = false := by decide) (hcd : (x == ("__classdict__" : Str)) = false := by decide) : PE X (.Name x pos) (tVar i) := by
  intro pins s σ H Q I h
  obtain ⟨v, e, h⟩ := h
  obtain ⟨m, hn, hl⟩ := I.loc
  obtain ⟨u, r, l⟩ := hl i x v hN e hv
  have fin : EP X pins σ Q u s := ⟨v, H, I, r, h⟩
  rcases l with ⟨hk, hm⟩ | ⟨hk, c, hc, hcell⟩
  · exact wpAny_Name (wpAny_loadName_local I.ok.kind hk hn hm fin) hd
  · rcases hk with hk | hk
    · exact wpAny_Name (wpAny_loadName_cell I.ok.kind hk hc hcell fin) hd
    · exact wpAny_Name (wpAny_loadName_free I.ok.kind hk hc hcell fin hcd) hd
theorem pe_int {i j pos} : PE X (.Constant (.int i) j pos) (tC (.int i)) := fun _ _ _ H _ I h => wpAny_Constant_int ⟨.int i, H, I.tok _, ⟨_, rfl⟩, h⟩
theorem pe_bl {b j pos} : PE X (.Constant (.bool b) j pos) (tC (.bl b)) := fun _ _ _ H _ I h => Constant_bool ⟨.bl b, H, I, rfl, h⟩
theorem pe_non {j pos} : PE X (.Constant .none j pos) (tC .non) := fun _ _ _ H _ I h => Constant_none ⟨.non, H, I, rfl, h⟩
theorem pe_str {x j pos} : PE X (.Constant (.str x) j pos) (tC (.str x)) := fun _ _ _ H _ I h => Calls.Constant_str ⟨.str x, H, I.tok _, ⟨_, rfl⟩, h⟩
def Gl (X : Cx) (x : Str) : Prop := X.env.kindOf x = some .globalImplicit
theorem ld_glob {E : Value → Shared → Prop} {pins : List (Addr × Obj)} {s : Shared} {σ : St} {H : Hp} {x : Str} {u : Value} {pos : Pos} {Q : Value → Shared → Prop} (I : Inv X pins σ H s) (hg : Gl X x) (hm : X.mg x = some u) (h : Q u s)
    (hd : (x == ("__debug__" : Str)) = false := by decide) : wpAny (model X.prog X.w) X.A (eval (.Name x pos) X.env) Q E s :=
  Calls.Name_function_global I.ok.kind hg (Calls.loadGlobal_global (by rw [I.ok.glob]; exact I.mod.glob.keeps I.bk) hm h) hd
theorem ld_blt {E : Value → Shared → Prop} {pins : List (Addr × Obj)} {s : Shared} {σ : St} {H : Hp} {x : Str} {u : Value} {pos : Pos} {Q : Value → Shared → Prop} (I : Inv X pins σ H s) (hg : Gl X x) (hm : X.mg x = none) (hv : bootBuiltins x = some u) (h : Q u s)
    (hn : x ≠ "__name__" := by decide) (hd : (x == ("__debug__" : Str)) = false := by decide) : wpAny (model X.prog X.w) X.A (eval (.Name x pos) X.env) Q E s := by
  obtain ⟨mb, h1, h2⟩ := I.mod.blt
  exact Calls.Name_function_global I.ok.kind hg (Calls.loadGlobal_builtin (by rw [I.ok.glob]; exact I.mod.glob.keeps I.bk) hm (by rw [I.ok.blt]; exact h1.keeps I.bk) ((h2 x hn).trans hv) h) hd
theorem pe_glob {x : Str} {v : V} {u : Value} {pos : Pos} (hg : Gl X x) (hm : X.mg x = some u) (r : RelV v u) (hd : (x == ("__debug__" : Str)) = false := by decide) : PE X (.Name x pos) (tC v) :=
  fun _ _ _ H _ I h => ld_glob I hg hm ⟨v, H, I, r, h⟩ hd
theorem pe_bltn {x : Str} {v : V} {u : Value} {pos : Pos} (hg : Gl X x) (hm : X.mg x = none) (hv : bootBuiltins x = some u) (r : RelV v u) (hn : x ≠ "__name__" := by decide) (hd : (x == ("__debug__" : Str)) = false := by decide) : PE X (.Name x pos) (tC v) :=
  fun _ _ _ H _ I h => ld_blt I hg hm hv ⟨v, H, I, r, h⟩ hn hd
def t2I (ta tb : TE) (k : Int → Int → Hp → Prop) : St → Hp → Prop := fun σ H => ta σ H fun x H1 => tb σ H1 fun y H2 => ∃ i j, x = .int i ∧ y = .int j ∧ k i j H2
def tAdd (ta tb : TE) : TE := fun σ H Q => t2I ta tb (fun i j H2 => Q (.int (i + j)) H2) σ H
def tSub (ta tb : TE) : TE := fun σ H Q => t2I ta tb (fun i j H2 => Q (.int (i - j)) H2) σ H
def tMul (ta tb : TE) : TE := fun σ H Q => t2I ta tb (fun i j H2 => (-(2 ^ 64) < i ∧ i < 2 ^ 64) ∧ Q (.int (i * j)) H2) σ H
variable {a b : Expr} {ta tb : TE} {pos : Pos}
def PC (X : Cx) (op : CmpOp) (a b : Expr) (t : TE) : Prop :=
  ∀ (pins : List (Addr × Obj)) (s : Shared) (σ : St) (H : Hp) (Q : VK), Inv X pins σ H s → t σ H Q →
    wpAny (model X.prog X.w) X.A (eval a X.env) (fun v s₁ => wpAny (model X.prog X.w) X.A (eval b X.env) (fun u s₂ => wpAny (model X.prog X.w) X.A (compareOp op v u) (EP X pins σ Q) X.xe s₂) X.xe s₁) X.xe s
def tCmp (p : Int → Int → Bool) (ta tb : TE) : TE := fun σ H Q => t2I ta tb (fun i j H2 => Q (.bl (p i j)) H2) σ H
abbrev tLt : TE → TE → TE := tCmp fun i j => decide (i < j)
abbrev tLe : TE → TE → TE := tCmp fun i j => decide (i ≤ j)
abbrev tGt : TE → TE → TE := tCmp fun i j => decide (j < i)
abbrev tGe : TE → TE → TE := tCmp fun i j => decide (j ≤ i)
abbrev tEqI : TE → TE → TE := tCmp fun i j => decide (i = j)
abbrev tNeI : TE → TE → TE := tCmp fun i j => !decide (i = j)
def tIsN (ta : TE) : TE := fun σ H Q => ta σ H fun x H1 => Q (.bl (decide (x = .non))) H1
def tNotN (ta : TE) : TE := fun σ H Q => ta σ H fun x H1 => Q (.bl (!decide (x = .non))) H1
def tB (t : TE) : TT := fun σ H Q => t σ H fun x H1 => ∃ c, x = .bl c ∧ Q c H1
theorem pt_val {e : Expr} {t : TE} (h : PE X e t) (he : ∀ whole, isTrue e X.env whole = (do let v ← whole; standAt e.pos; holding [v] (truthy v)) := by intro _; rfl) : PT X e (tB t) := by
  intro pins s σ H Q I hw
  refine isTrue_plain (thn (h pins s σ H _ I hw) fun v s1 ⟨x, H1, I1, r1, q1⟩ => ?_) (he _)
  obtain ⟨d, rfl, q⟩ := q1
  cases r1
  exact wpAny_truthy_bool ⟨H1, I1, q⟩
variable {tA tB' : TT} {rest : List Expr}
def tAnd (t u : TT) : TT := fun σ H Q => t σ H fun c H1 => if c = true then u σ H1 Q else Q false H1
def tOr (t u : TT) : TT := fun σ H Q => t σ H fun c H1 => if c = true then Q true H1 else u σ H1 Q
def tNot (t : TT) : TT := fun σ H Q => t σ H fun c H1 => Q (!c) H1
theorem pw_and1 (ha : PT X a tA) : PW X (.BoolOp .And [a] pos) tA := by
  intro wh pins s σ H Q I h
  refine isTrue_and (thn (ha pins s σ H Q I h) fun c s1 e => ?_)
  cases c with
  | true => exact isTrue_and_nil e
  | false => exact e
theorem pw_or1 (ha : PT X a tA) : PW X (.BoolOp .Or [a] pos) tA := by
  intro wh pins s σ H Q I h
  refine isTrue_or (thn (ha pins s σ H Q I h) fun c s1 e => ?_)
  cases c with
  | false => exact isTrue_or_nil e
  | true => exact e
theorem pw_and (ha : PT X a tA) (hb : PW X (.BoolOp .And (b :: rest) pos) tB') : PW X (.BoolOp .And (a :: b :: rest) pos) (tAnd tA tB') := by
  intro wh pins s σ H Q I h
  refine isTrue_and (thn (ha pins s σ H _ I h) fun c s1 ⟨H1, I1, q1⟩ => ?_)
  cases c with
  | true => exact hb wh pins s1 σ H1 Q I1 q1
  | false => exact ⟨H1, I1, q1⟩
theorem pw_or (ha : PT X a tA) (hb : PW X (.BoolOp .Or (b :: rest) pos) tB') : PW X (.BoolOp .Or (a :: b :: rest) pos) (tOr tA tB') := by
  intro wh pins s σ H Q I h
  refine isTrue_or (thn (ha pins s σ H _ I h) fun c s1 ⟨H1, I1, q1⟩ => ?_)
  cases c with
  | true => exact ⟨H1, I1, q1⟩
  | false => exact hb wh pins s1 σ H1 Q I1 q1
theorem pt_not (ha : PT X a tA) : PT X (.UnaryOp .Not a pos) (tNot tA) := by
  intro pins s σ H Q I h
  exact isTrue_not (ha pins s σ H (fun c H1 => Q (!c) H1) I h)
def tAndV (ta tb : TE) : TE := fun σ H Q => ta σ H fun x H1 => ∃ c, x = .bl c ∧ if c = true then tb σ H1 Q else Q (.bl false) H1
def tOrV (ta tb : TE) : TE := fun σ H Q => ta σ H fun x H1 => ∃ c, x = .bl c ∧ if c = true then Q (.bl true) H1 else tb σ H1 Q
def tNotV (ta : TE) : TE := fun σ H Q => ta σ H fun x H1 => ∃ c, x = .bl c ∧ Q (.bl (!c)) H1
theorem pe_one {op} {t : TE} (h : PE X a t) : PE X (.BoolOp op [a] pos) t := fun pins s σ H Q I hw => BoolOp_one (h pins s σ H Q I hw)
theorem pe_and (ha : PE X a ta) (hb : PE X (.BoolOp .And (b :: rest) pos) tb) : PE X (.BoolOp .And (a :: b :: rest) pos) (tAndV ta tb) := by
  intro pins s σ H Q I h
  refine BoolOp_and (thn (ha pins s σ H _ I h) fun v s1 ⟨x, H1, I1, r1, q1⟩ => ?_)
  obtain ⟨c, rfl, q1⟩ := q1
  cases r1
  refine wpAny_truthy_bool ?_
  cases c with
  | true => exact hb pins s1 σ H1 Q I1 q1
  | false => exact ⟨.bl false, H1, I1, rfl, q1⟩
theorem pe_or (ha : PE X a ta) (hb : PE X (.BoolOp .Or (b :: rest) pos) tb) : PE X (.BoolOp .Or (a :: b :: rest) pos) (tOrV ta tb) := by
  intro pins s σ H Q I h
  refine BoolOp_or (thn (ha pins s σ H _ I h) fun v s1 ⟨x, H1, I1, r1, q1⟩ => ?_)
  obtain ⟨c, rfl, q1⟩ := q1
  cases r1
  refine wpAny_truthy_bool ?_
  cases c with
  | false => exact hb pins s1 σ H1 Q I1 q1
  | true => exact ⟨.bl true, H1, I1, rfl, q1⟩
theorem pe_not (ha : PE X a ta) : PE X (.UnaryOp .Not a pos) (tNotV ta) := by
  intro pins s σ H Q I h
  refine UnaryOp_ (thn (ha pins s σ H _ I h) fun v s1 ⟨x, H1, I1, r1, q1⟩ => ?_)
  obtain ⟨c, rfl, q1⟩ := q1
  cases r1
  exact not_of (wpAny_truthy_bool ⟨.bl (!c), H1, I1, rfl, q1⟩)
def tIf (t : TT) (ta tb : TE) : TE := fun σ H Q => t σ H fun c H1 => if c = true then ta σ H1 Q else tb σ H1 Q
theorem pe_ifExp {c : Expr} (hc : PT X c tA) (ha : PE X a ta) (hb : PE X b tb) : PE X (.IfExp c a b pos) (tIf tA ta tb) := by
  intro pins s σ H Q I h
  refine wpAny_IfExp (thn (hc pins s σ H _ I h) fun d s1 ⟨H1, I1, q1⟩ => ?_)
  cases d with
  | true => exact ha pins s1 σ H1 Q I1 q1
  | false => exact hb pins s1 σ H1 Q I1 q1
end
end L2
namespace L2
open PySem PySem.Spec PyProof.Rows
def SqL (K : PySem.W.Frag) (H : Hp) (a : Addr) (xs : List V) : Prop :=
  Rd H a (.lst xs) ∨
    ∃ (o : Obj) (its : Array Value) (n : Nat), K.lookup a = some o ∧ o.cls = .type "list" ∧ o.dict = none ∧ o.data = .seq its n ∧ its.size ≤ sizeLine ∧ Vals xs its.toList
def SqT (K : PySem.W.Frag) (H : Hp) (a : Addr) (xs : List V) : Prop :=
  Rd H a (.tup xs) ∨
    ∃ (o : Obj) (its : Array Value) (n : Nat), K.lookup a = some o ∧ o.cls = .type "tuple" ∧ o.data = .seq its n ∧ its.size ≤ sizeLine ∧ Vals xs its.toList
def absV : Value → Option V
  | .none => some .non
  | .bool b => some (.bl b)
  | .int i _ => some (.int i)
  | .str x _ => some (.str x)
  | .bytes b _ => some (.byt b)
  | .float b _ => some (.flt b)
  | .ref a => some (.ref a)
  | .type n => some (.ty n)
  | _ => none
theorem RelV.abs {x : V} {u : Value} (r : RelV x u) : absV u = some x := by
  cases x with
  | non => cases r; rfl
  | bl _ => cases r; rfl
  | int _ => obtain ⟨t, rfl⟩ := r; rfl
  | str _ => obtain ⟨t, rfl⟩ := r; rfl
  | byt _ => obtain ⟨t, rfl⟩ := r; rfl
  | flt _ => obtain ⟨t, rfl⟩ := r; rfl
  | ref _ => cases r; rfl
  | ty _ => cases r; rfl
theorem RelV.inj {x y : V} {u : Value} (r : RelV x u) (q : RelV y u) : x = y := Option.some.inj (r.abs.symm.trans q.abs)
theorem Vals.inj : ∀ {xs ys : List V} {us : List Value}, Vals xs us → Vals ys us → xs = ys
  | _, _, _, .nil, .nil => rfl
  | _, _, _, .cons r t, .cons r' t' => by rw [r.inj r', Vals.inj t t']
section
variable {X : Cx} {pins : List (Addr × Obj)} {σ : St} {H : Hp} {s : Shared} {a : Addr} {xs ys : List V}
theorem SqL.of {K : PySem.W.Frag} (h : H a = some (.lst xs)) : SqL K H a xs := .inl (.inl h)
theorem SqT.of {K : PySem.W.Frag} (h : H a = some (.tup xs)) : SqT K H a xs := .inl (.inl h)
theorem Inv.list (I : Inv X pins σ H s) (h : SqL X.K H a xs) : ∃ its : List Value, Vals xs its ∧ PlainL s.heap a its.toArray ∧ xs.length ≤ sizeLine := by
  rcases h with h | ⟨o, its, n, hk, hc, hd, hs, hz, r⟩
  · obtain ⟨z, its, n, r, e⟩ := h.ok I.hok
    exact ⟨its, r, ⟨_, n, e, rfl, rfl, rfl⟩, z⟩
  · refine ⟨its.toList, r, ⟨o, n, I.kIn a o hk, hc, hd, by simpa using hs⟩, ?_⟩
    have e := r.length
    simp only [Array.length_toList] at e
    omega
theorem Inv.tuple (I : Inv X pins σ H s) (h : SqT X.K H a xs) : ∃ its : List Value, Vals xs its ∧ IsTup s.heap a its.toArray ∧ xs.length ≤ sizeLine := by
  rcases h with h | ⟨o, its, n, hk, hc, hs, hz, r⟩
  · obtain ⟨z, its, r, p⟩ := h.ok I.hok
    exact ⟨its, r, p, z⟩
  · refine ⟨its.toList, r, ⟨o, I.kIn a o hk, hc, n, by simpa using hs⟩, ?_⟩
    have e := r.length
    simp only [Array.length_toList] at e
    omega
theorem Inv.list_inj (I : Inv X pins σ H s) (h : SqL X.K H a xs) (h' : SqL X.K H a ys) : xs = ys := by
  obtain ⟨its, r, ⟨o, n, e, _, _, d⟩, _⟩ := I.list h
  obtain ⟨its', r', ⟨o', n', e', _, _, d'⟩, _⟩ := I.list h'
  rw [e] at e'; cases e'
  rw [d] at d'
  injection d' with d1 _
  have : its = its' := by simpa using congrArg Array.toList d1
  subst this
  exact r.inj r'
theorem Inv.tuple_inj (I : Inv X pins σ H s) (h : SqT X.K H a xs) (h' : SqT X.K H a ys) : xs = ys := by
  obtain ⟨its, r, ⟨o, e, _, n, d⟩, _⟩ := I.tuple h
  obtain ⟨its', r', ⟨o', e', _, n', d'⟩, _⟩ := I.tuple h'
  rw [e] at e'; cases e'
  rw [d] at d'
  injection d' with d1 _
  have : its = its' := by simpa using congrArg Array.toList d1
  subst this
  exact r.inj r'
end
abbrev Cx.wish (X : Cx) (E : Value → Shared → Prop) : Cx := { X with xe := E }
abbrev Cx.nox (X : Cx) : Cx := X.wish fun _ _ => False
theorem Cx.Ok.wish {X : Cx} (ok : X.Ok) (E : Value → Shared → Prop) : (X.wish E).Ok :=
  ⟨ok.mod, ok.kind, ok.glob, ok.blt, ok.above, ok.inj, ok.has, ok.cab, ok.hd, ok.frames, ok.stk, ok.exf, ok.bs, ok.bsz, ok.noex, ok.exfs, ok.funs, ok.frf⟩
theorem Cx.Ok.unwish {X : Cx} {E : Value → Shared → Prop} (ok : (X.wish E).Ok) : X.Ok :=
  ⟨ok.mod, ok.kind, ok.glob, ok.blt, ok.above, ok.inj, ok.has, ok.cab, ok.hd, ok.frames, ok.stk, ok.exf, ok.bs, ok.bsz, ok.noex, ok.exfs, ok.funs, ok.frf⟩
section
variable {X : Cx} {pins : List (Addr × Obj)} {σ : St} {H : Hp} {s : Shared} {E : Value → Shared → Prop}
theorem Inv.wish (I : Inv X pins σ H s) (E : Value → Shared → Prop) : Inv (X.wish E) pins σ H s := ⟨I.ok.wish E, I.os, I.bare, I.base, I.loc, I.cell, I.free, I.freeC, I.pin, I.hok, I.len⟩
theorem Inv.unwish (I : Inv (X.wish E) pins σ H s) : Inv X pins σ H s := ⟨I.ok.unwish, I.os, I.bare, I.base, I.loc, I.cell, I.free, I.freeC, I.pin, I.hok, I.len⟩
theorem SP.unwish {D : Ends} {f : Flow} {s' : Shared} (h : SP (X.wish E) pins D f s') : SP X pins D f s' := by
  cases f with
  | next => obtain ⟨σ', H', I, q⟩ := h; exact ⟨σ', H', I.unwish, q⟩
  | brk => obtain ⟨σ', H', I, q⟩ := h; exact ⟨σ', H', I.unwish, q⟩
  | cont => obtain ⟨σ', H', I, q⟩ := h; exact ⟨σ', H', I.unwish, q⟩
  | ret u => obtain ⟨v, σ', H', I, r, q⟩ := h; exact ⟨v, σ', H', I.unwish, r, q⟩
theorem PSs.nox {st : List Stmt} {t : TS} (h : PSs X.nox st t) : PSs X st t := fun pins s σ H D I hw =>
  wpAny_mono (h pins s σ H D (I.wish _) hw) (fun _ _ q => q.unwish) fun _ _ z => False.elim z
end
section
variable {X : Cx} {st : Stmt} {rest : List Stmt} {t u : TS} {e : Expr} {te : TE} {pos : Pos}
def tNext : TS := fun D σ H => D.nx σ H
def tSeq (t u : TS) : TS := fun D σ H => t { D with nx := u D } σ H
theorem pss_nil : PSs X [] tNext := fun _ _ σ H _ I h => wpAny_execs_nil ⟨σ, H, I, h⟩
theorem pss_cons (h1 : PS X st t) (h2 : PSs X rest u) : PSs X (st :: rest) (tSeq t u) := by
  intro pins s σ H D I h
  refine wpAny_execs_cons (thn (h1 pins s σ H { D with nx := u D } I h) fun f s1 q => ?_)
  cases f with
  | next =>
    obtain ⟨σ', H', I', q⟩ := q
    exact h2 pins s1 σ' H' D I' q
  | ret v => exact q
  | brk => exact q
  | cont => exact q
theorem pss_one (h1 : PS X st t) : PSs X [st] t := by
  intro pins s σ H D I h
  refine wpAny_execs_cons (thn (h1 pins s σ H D I h) fun f s1 q => ?_)
  cases f with
  | next => exact wpAny_execs_nil q
  | ret v => exact q
  | brk => exact q
  | cont => exact q
def tBreak : TS := fun D σ H => D.bk σ H
def tCont : TS := fun D σ H => D.ct σ H
theorem Inv.quiet {pins : List (Addr × Obj)} {σ : St} {H : Hp} {s : Shared} (I : Inv X pins σ H s) : interactive X.env = false := by simp [interactive, I.ok.kind]
def tDrop (te : TE) : TS := fun D σ H => te σ H fun _ H1 => D.nx σ H1
theorem ps_expr (he : PE X e te) (hs : swapsWith e none pos.line X.env = pure false := by rfl) : PS X (.Expr e pos) (tDrop te) := by
  intro pins s σ H D I h
  exact wpAny_Expr_any (thn (he pins s σ H _ I h) fun v s1 ⟨x, H1, I1, r1, q1⟩ => ⟨σ, H1, I1, q1⟩) I.quiet hs
def tRet (te : TE) : TS := fun D σ H => te σ H D.rt
theorem ps_ret (he : PE X e te) : PS X (.Return (some e) pos) (tRet te) := by
  intro pins s σ H D I h
  exact wpAny_Return_some (thn (he pins s σ H _ I h) fun v s1 ⟨x, H1, I1, r1, q1⟩ => ⟨x, σ, H1, I1, r1, q1⟩)
def tRetN : TS := fun D _ H => D.rt .non H
def tIfS (c : TT) (t u : TS) : TS := fun D σ H => c σ H fun b H1 => if b = true then t D σ H1 else u D σ H1
theorem ps_if {c : Expr} {a b : List Stmt} {tc : TT} (hc : PT X c tc) (ha : PSs X a t) (hb : PSs X b u) : PS X (.If c a b pos) (tIfS tc t u) := by
  intro pins s σ H D I h
  refine wpAny_If (thn (hc pins s σ H _ I h) fun d s1 ⟨H1, I1, q1⟩ => ?_)
  cases d with
  | true => exact ha pins s1 σ H1 D I1 q1
  | false => exact hb pins s1 σ H1 D I1 q1
def tNever : TS := fun _ _ _ => False
end
abbrev TG := V → St → Hp → (St → Hp → Prop) → Prop
abbrev TGs := List V → St → Hp → (St → Hp → Prop) → Prop
def PG (X : Cx) (target : Expr) (t : TG) : Prop :=
  ∀ (pins : List (Addr × Obj)) (s : Shared) (σ : St) (H : Hp) (v : V) (u : Value) (Q : St → Hp → Prop), Inv X pins σ H s → RelV v u → t v σ H Q →
    wpAny (model X.prog X.w) X.A (assign target X.env u) (fun _ s' => ∃ σ' H', Inv X pins σ' H' s' ∧ Q σ' H') X.xe s
def PGs (X : Cx) (ts : List Expr) (t : TGs) : Prop :=
  ∀ (pins : List (Addr × Obj)) (s : Shared) (σ : St) (H : Hp) (vs : List V) (us : List Value) (Q : St → Hp → Prop), Inv X pins σ H s → Vals vs us → t vs σ H Q →
    wpAny (model X.prog X.w) X.A (assignInOrder ((assignEach ts X.env).map (·.2)) us) (fun _ s' => ∃ σ' H', Inv X pins σ' H' s' ∧ Q σ' H') X.xe s
abbrev TSet := V → V → V → Hp → (Hp → Prop) → Prop
def PSet (X : Cx) (t : TSet) : Prop :=
  ∀ (pins : List (Addr × Obj)) (s : Shared) (σ : St) (H : Hp) (o i v : V) (ov iv u : Value) (Q : Hp → Prop), Inv X pins σ H s → RelV o ov → RelV i iv → RelV v u → t o i v H Q →
    wpAny (model X.prog X.w) X.A (setItem ov iv u) (fun _ s' => ∃ H', Inv X pins σ H' s' ∧ Q H') X.xe s
abbrev TIp := V → V → Hp → VK → Prop
def PIp (X : Cx) (op : Operator) (t : TIp) : Prop :=
  ∀ (pins : List (Addr × Obj)) (s : Shared) (σ : St) (H : Hp) (x y : V) (v u : Value) (Q : VK), Inv X pins σ H s → RelV x v → RelV y u → t x y H Q →
    wpAny (model X.prog X.w) X.A (inplaceOp op v u) (EP X pins σ Q) X.xe s
section
variable {X : Cx} {pos : Pos}
def gName (i : Nat) : TG := fun v σ H Q => Q (σ.set i (some v)) H
theorem pg_name {i : Nat} {x : Str} (hN : X.N.Nodup) (hi : X.N[i]? = some x) (hx : Loc X.env.scope x) (hf : X.fn x = true ∨ X.env.scope.names.lookup x = some .local := by first | exact .inl rfl | exact .inr rfl | assumption) : PG X (.Name x pos) (gName i) := by
  intro pins s σ H v u Q I r h
  exact wpAny_assign_Name (store_ok I hN hi hx r (fun s' I' => ⟨_, H, I', h⟩) hf)
def gNil : TGs := fun vs σ H Q => vs = [] ∧ Q σ H
def gCons (t : TG) (u : TGs) : TGs := fun vs σ H Q => ∃ v r, vs = v :: r ∧ t v σ H fun σ' H' => u r σ' H' Q
theorem pgs_nil : PGs X [] gNil := by
  intro pins s σ H vs us Q I r h
  obtain ⟨e, h⟩ := h
  subst e
  cases r
  exact assignInOrder_nil ⟨σ, H, I, h⟩
theorem pgs_cons {e : Expr} {es : List Expr} {t : TG} {u : TGs} (h1 : PG X e t) (h2 : PGs X es u)
    (hs : (assignEach (e :: es) X.env).map (·.2) = assign e X.env :: (assignEach es X.env).map (·.2) := by rfl) : PGs X (e :: es) (gCons t u) := by
  intro pins s σ H vs us Q I r h
  obtain ⟨v, vr, e1, h⟩ := h
  subst e1
  cases r with
  | cons r rr =>
    rw [hs]
    refine assignInOrder_cons (thn (h1 pins s σ H _ _ _ I r h) fun _ s1 ⟨σ1, H1, I1, q1⟩ => ?_)
    exact h2 pins s1 σ1 H1 _ _ Q I1 rr q1
def gTup (K : PySem.W.Frag) (n : Nat) (t : TGs) : TG := fun v σ H Q => ∃ a xs, v = .ref a ∧ SqT K H a xs ∧ xs.length = n ∧ t xs σ H Q
theorem pg_tup {es : List Expr} {k : Nat} {t : TGs} {n : Nat} (hc : X.calm = true) (h : PGs X es t)
    (hn : (assignEach es X.env).length = n := by rfl) (hst : (assignEach es X.env).findIdx? (·.1) = none := by rfl) : PG X (.Tuple es k pos) (gTup X.K n t) := by
  intro pins s σ H v u Q I r hw
  obtain ⟨a, xs, e1, hq, hl, hw⟩ := hw
  subst e1
  cases r
  obtain ⟨its, rv, ht, hz⟩ := I.tuple hq
  refine assign_Tuple_tuple (I.ok.hd hc) ht (by simp [hn, ← hl, rv.length]) hst fun h' hx => ?_
  have I1 : Inv X pins σ H { s with heap := h' } := I.kept (t' := s.toks) fun b o e => hx b o (Nat.ne_of_lt (Heap.lt_size e)) e
  exact h pins _ σ H xs _ Q I1 (by simpa using rv) hw
def gSub (to ti : TE) (t : TSet) : TG := fun v σ H Q => to σ H fun o H1 => ti σ H1 fun i H2 => t o i v H2 fun H3 => Q σ H3
theorem pg_sub {o i : Expr} {to ti : TE} {t : TSet} (ho : PE X o to) (hi : PE X i ti) (hs : PSet X t)
    (ha : ∀ v, assign (.Subscript o i pos) X.env v = (do
      let ov ← holding [v] (eval o X.env)
      let iv ← holding [v, ov] (eval i X.env)
      standAt pos
      holding [v, ov, iv] (setItem ov iv v)
      release [v, ov, iv] []) := by intro _; rfl) : PG X (.Subscript o i pos) (gSub to ti t) := by
  intro pins s σ H v u Q I r h
  rw [ha]
  refine wpAny_bind (wpAny_holding (thn (ho pins s σ H _ I h) fun ov s1 ⟨x, H1, I1, r1, q1⟩ => ?_))
  refine wpAny_bind (wpAny_holding (thn (hi pins s1 σ H1 _ I1 q1) fun iv s2 ⟨y, H2, I2, r2, q2⟩ => ?_))
  refine wpAny_bind (wpAny_standAt (wpAny_bind (wpAny_holding (thn (hs pins s2 σ H2 x y v ov iv u _ I2 r1 r2 r q2) fun _ s3 ⟨H3, I3, q3⟩ => ?_))))
  exact wpAny_release ⟨σ, H3, I3, q3⟩
def tAsg (te : TE) (g : TG) : TS := fun D σ H => te σ H fun x H1 => g x σ H1 D.nx
theorem ps_asg {tg e : Expr} {te : TE} {g : TG} (he : PE X e te) (hg : PG X tg g) (hs : swapsWithSole [tg] e pos.line X.env = pure false := by rfl) (hw : swappedStores [tg] e X.env = pure none := by rfl)
    (h1 : (assignEach [tg] X.env).map (·.2) = [assign tg X.env] := by rfl) : PS X (.Assign [tg] e pos) (tAsg te g) := by
  intro pins s σ H D I h
  refine wpAny_Assign_stores (thn (he pins s σ H _ I h) fun v s1 ⟨x, H1, I1, r1, q1⟩ => ?_) hs hw
  rw [h1]
  exact thn (hg pins s1 σ H1 x v _ I1 r1 q1) fun _ s2 q => q
theorem ps_set {i : Nat} {x : Str} {e : Expr} {te : TE} {pos' : Pos} (hN : X.N.Nodup) (hi : X.N[i]? = some x) (hx : Loc X.env.scope x) (he : PE X e te) (hs : swapsWith e (some (.Name x pos')) pos.line X.env = pure false := by rfl) (hf : X.fn x = true ∨ X.env.scope.names.lookup x = some .local := by first | exact .inl rfl | exact .inr rfl | assumption) :
    PS X (.Assign [.Name x pos'] e pos) (tAsg te (gName i)) := by
  intro pins s σ H D I h
  refine wpAny_Assign_Name (thn (he pins s σ H _ I h) fun v s1 ⟨y, H1, I1, r1, q1⟩ => ?_) hs
  exact store_ok I1 hN hi hx r1 (fun s2 I2 => ⟨_, H1, I2, q1⟩) hf
def tPar (i j : Nat) (ta : TA) : TS := fun D σ H => ta σ H fun vs H1 => ∃ v w, vs = [v, w] ∧ D.nx ((σ.set i (some v)).set j (some w)) H1
def tAug (i : Nat) (te : TE) (ti : TIp) : TS := fun D σ H => ∃ x, σ[i]? = some (some x) ∧ te σ H fun y H1 => ti x y H1 fun z H2 => D.nx (σ.set i (some z)) H2
def tAugS (to ti te : TE) (tget : V → V → Hp → VK → Prop) (tip : TIp) (tset : TSet) : TS := fun D σ H => to σ H fun o H1 => ti σ H1 fun i H2 => tget o i H2 fun x H3 => te σ H3 fun y H4 => tip x y H4 fun z H5 => tset o i z H5 fun H6 => D.nx σ H6
def PGet (X : Cx) (t : V → V → Hp → VK → Prop) : Prop :=
  ∀ (pins : List (Addr × Obj)) (s : Shared) (σ : St) (H : Hp) (o i : V) (ov iv : Value) (Q : VK), Inv X pins σ H s → RelV o ov → RelV i iv → t o i H Q →
    wpAny (model X.prog X.w) X.A (getItem ov iv) (EP X pins σ Q) X.xe s
def ipI (f : Int → Int → Int) : TIp := fun x y H Q => ∃ i j, x = .int i ∧ y = .int j ∧ Q (.int (f i j)) H
end
section
variable {X : Cx} {pos : Pos}
def tWhile (c : TT) (tb : TS) : TS := fun D σ H => ∃ W : Nat → St → Hp → Prop, (∃ m, W m σ H) ∧ ∀ m σ H, W m σ H →
  c σ H fun b H1 => if b = true then ∃ N : St → Hp → Prop, (∀ σ' H', N σ' H' → ∃ m', m' < m ∧ W m' σ' H') ∧ tb { D with nx := N, ct := N, bk := D.nx } σ H1 else D.nx σ H1
theorem ps_while {c : Expr} {body : List Stmt} {tc : TT} {tb : TS} (hp : PassesOwn (model X.prog X.w) X.A X.env X.xe) (hc : PT X c tc) (hb : PSs X body tb) : PS X (.While c body [] pos) (tWhile tc tb) := by
  intro pins s σ H D I h
  obtain ⟨W, ⟨m0, w0⟩, turn⟩ := h
  refine wpAny_While (codeAny_whileLoop (fun n s' => ∃ σ' H', Inv X pins σ' H' s' ∧ W n σ' H') ?_ m0 ⟨σ, H, I, w0⟩)
  rintro n s1 ⟨σ1, H1, I1, w1⟩
  refine wpAny_passesOwn hp (thn (hc pins s1 σ1 H1 _ I1 (turn n σ1 H1 w1)) fun b s2 ⟨H2, I2, q2⟩ => ?_)
  cases b with
  | true =>
    obtain ⟨N, hN, q2⟩ := q2
    rw [if_pos rfl]
    refine wpAny_passesOwn hp (thn (hb pins s2 σ1 H2 _ I2 q2) fun f s3 q3 => ?_)
    cases f with
    | next =>
      obtain ⟨σ3, H3, I3, n3⟩ := q3
      obtain ⟨m', hm, w3⟩ := hN σ3 H3 n3
      exact ⟨m', hm, σ3, H3, I3, w3⟩
    | cont =>
      obtain ⟨σ3, H3, I3, n3⟩ := q3
      obtain ⟨m', hm, w3⟩ := hN σ3 H3 n3
      exact ⟨m', hm, σ3, H3, I3, w3⟩
    | brk => exact q3
    | ret v => exact q3
  | false =>
    rw [if_neg Bool.false_ne_true]
    exact wpAny_execs_nil ⟨σ1, H2, I2, q2⟩
end
structure It where
  go : Nat → Hp → Prop
  yld : Nat → Hp → V → Hp → Prop
  stop : Nat → Hp → Prop
def FpOk (X : Cx) (pins : List (Addr × Obj)) (H : Hp) (b : Addr) : Prop :=
  H b = none ∧ b ≠ X.env.locals ∧ b ∉ X.fs ∧ (b ∈ X.ex ∨ X.s₀.heap.get? b = none) ∧ (∀ x c, X.env.cells.lookup x = some c → c ≠ b) ∧ ∀ p ∈ X.pn ++ pins, p.1 ≠ b
theorem Inv.fpOk {X : Cx} {pins : List (Addr × Obj)} {σ : St} {H H' : Hp} {s : Shared} {b : Addr} (I : Inv X pins σ H s) (hb : s.heap.objs.size ≤ b) (hn : H' b = none) : FpOk X pins H' b := by
  refine ⟨hn, Nat.ne_of_gt (Nat.lt_of_lt_of_le I.lt hb), I.nofs hb, .inr (Heap.get?_none_of_le (Nat.le_trans I.sz hb)), fun x c e z => ?_, fun p hp z => ?_⟩
  · obtain ⟨v, q⟩ := I.cell x c e
    exact absurd (Nat.lt_of_lt_of_le q.lt (by rw [z]; exact hb)) (Nat.lt_irrefl _)
  · exact absurd (Nat.lt_of_lt_of_le (Heap.lt_size (I.pin p hp).1) (by rw [z]; exact hb)) (Nat.lt_irrefl _)
structure Turn (P : Program) (w : World) (K : PySem.W.Frag) (tg : Expr) (J : It) (fp : List Addr) (it : Addr) (tn : Nat → Heap → Prop) : Prop where
  mem : it ∈ fp
  obj : ∀ i h, tn i h → ∀ b ∈ fp, ∃ o, h.get? b = some o ∧ ∀ v, o.data ≠ .cell v
  keep : ∀ i h h', tn i h → (∀ b ∈ fp, ∀ o, h.get? b = some o → h'.get? b = some o) → tn i h'
  item : ∀ (X : Cx), X.prog = P → X.w = w → X.K = K → X.calm = true → ∀ (i : Nat) (pins : List (Addr × Obj)) (s : Shared) (σ : St) (H : Hp) (E : Value → Shared → Prop), Inv X pins σ H s → (∀ b ∈ fp, FpOk X pins H b) → tn i s.heap → J.go i H →
    wpAny (model P w) X.A (pyNext (.ref it)) (fun r s1 => ∃ u, r = some u ∧
      wpAny (model P w) X.A (letOwnedTupleGo tg (.ref it) u) (fun _ s2 => ∃ x H', Inv X pins σ H' s2 ∧ RelV x u ∧ J.yld i H x H' ∧ tn (i + 1) s2.heap ∧ ∀ b ∈ fp, H' b = none) E s1) E s
  done : ∀ (X : Cx), X.prog = P → X.w = w → X.K = K → X.calm = true → ∀ (i : Nat) (pins : List (Addr × Obj)) (s : Shared) (σ : St) (H : Hp) (E : Value → Shared → Prop), Inv X pins σ H s → (∀ b ∈ fp, FpOk X pins H b) → tn i s.heap → J.stop i H →
    wpAny (model P w) X.A (pyNext (.ref it)) (fun r s1 => r = none ∧ Inv X pins σ H s1) E s
  self : ∀ (A : Around) (i : Nat) (s : Shared) (Q : Value → Shared → Prop) (E : Value → Shared → Prop), tn i s.heap → Q (.ref it) s → wpAny (model P w) A (pyIter (.ref it)) Q E s
abbrev TI := St → Hp → (It → Hp → Prop) → Prop
def PIE (X : Cx) (pins : List (Addr × Obj)) (σ : St) (tg : Expr) (R : It → Hp → Prop) (itv : Value) (s2 : Shared) : Prop :=
  ∃ (it : Addr) (fp : List Addr) (tn : Nat → Heap → Prop) (J : It) (H' : Hp), itv = .ref it ∧ Inv X pins σ H' s2 ∧ Turn X.prog X.w X.K tg J fp it tn ∧ tn 0 s2.heap ∧ (∀ b ∈ fp, FpOk X pins H' b) ∧ R J H'
def PI (X : Cx) (tg iter : Expr) (wi : TI) : Prop :=
  ∀ (pins : List (Addr × Obj)) (s : Shared) (σ : St) (H : Hp) (R : It → Hp → Prop), Inv X pins σ H s → wi σ H R →
    wpAny (model X.prog X.w) X.A (eval iter X.env) (fun v s1 => wpAny (model X.prog X.w) X.A (pyIter v) (PIE X pins σ tg R) X.xe s1) X.xe s
theorem go_of {M : Model} {A : Around} {E : Value → Shared → Prop} {s : Shared} {tg : Expr} {it : Addr} {u : Value} {o : Obj} {n : String} {vs : Array Value} {Q : Unit → Shared → Prop} (ho : s.heap.get? it = some o) (hc : o.cls = .type n) (hd : o.data = .fields vs)
    (hn : ["enumerate", "zip", "dict_itemiterator", "dict_reverseitemiterator", "odict_iterator", "itertools.zip_longest", "itertools.pairwise"].contains n = false) (hQ : Q () s) : wpAny M A (letOwnedTupleGo tg (.ref it) u) Q E s := by
  unfold letOwnedTupleGo
  cases tg <;> first
    | exact wpAny_pure hQ
    | (cases u <;> first
        | exact wpAny_pure hQ
        | (refine wpAny_bind (wpAny_load ho ?_)
           rw [hc, hd]
           show wpAny M A (if (["enumerate", "zip", "dict_itemiterator", "dict_reverseitemiterator", "odict_iterator", "itertools.zip_longest", "itertools.pairwise"].contains n && vs[0]? == some (rawInt _)) = true then _ else _) Q E s
           rw [if_neg (by intro h; rw [hn, Bool.false_and] at h; cases h)]
           exact wpAny_pure hQ))
def Itl (K : PySem.W.Frag) (a : Addr) : It :=
  ⟨fun i H => ∃ xs x, SqL K H a xs ∧ xs[i]? = some x, fun i H x H' => H' = H ∧ ∀ xs, SqL K H a xs → xs[i]? = some x, fun i H => ∃ xs, SqL K H a xs ∧ xs.length ≤ i⟩
def Itt (K : PySem.W.Frag) (a : Addr) : It :=
  ⟨fun i H => ∃ xs x, SqT K H a xs ∧ xs[i]? = some x, fun i H x H' => H' = H ∧ ∀ xs, SqT K H a xs → xs[i]? = some x, fun i H => ∃ xs, SqT K H a xs ∧ xs.length ≤ i⟩
def Itr (lo : Int) (n : Nat) : It := ⟨fun i _ => i < n, fun i H x H' => H' = H ∧ x = .int (lo + i), fun i _ => n ≤ i⟩
theorem turn_list {P : Program} {w : World} {K : PySem.W.Frag} {tg : Expr} (a it : Addr) : Turn P w K tg (Itl K a) [it] it (fun i h => h.IsListIter it a i) where
  mem := by simp
  obj := fun i h st b hb => by
    have e : b = it := by simpa using hb
    subst e
    obtain ⟨o, e, c, d⟩ := st
    exact ⟨o, e, fun v z => by rw [d] at z; cases z⟩
  keep := fun i h h' st k => st.at fun o e => k it (by simp) o e
  item := by
    intro X hP hw hK hc i pins s σ H E I hf st hg
    subst hP hw hK
    obtain ⟨xs, x, hq, hx⟩ := hg
    obtain ⟨its, rv, p, hz⟩ := I.list hq
    obtain ⟨u, hu, ru⟩ := rv.get hx
    obtain ⟨f0, f1, f2, f3, f4, f5⟩ := hf it (by simp)
    refine wpAny_pyNext_list_item st p.isList (x := u) (by simpa using hu) fun h' st' sb => ?_
    have I1 : Inv X pins σ H { s with heap := h' } := I.turned (t' := s.toks) (fun b o hb e => (sb.2 b hb).trans e) f0 f1 f3 f4 f5
    obtain ⟨o, e, c, d⟩ := id st'
    exact ⟨u, rfl, go_of (s := { s with heap := h' }) e c d (by decide) ⟨x, H, I1, ru, ⟨rfl, fun ys hy => by rw [I.list_inj hy hq]; exact hx⟩, st', fun b hb => (hf b hb).1⟩⟩
  done := by
    intro X hP hw hK hc i pins s σ H E I hf st hg
    subst hP hw hK
    obtain ⟨xs, hq, hx⟩ := hg
    obtain ⟨its, rv, p, hz⟩ := I.list hq
    obtain ⟨f0, f1, f2, f3, f4, f5⟩ := hf it (by simp)
    have hl := rv.length
    exact wpAny_pyNext_list_end (I.ok.hd hc) st p.isList (by simp; omega) fun h' eb => ⟨rfl, I.turned (t' := s.toks) (fun b o hb e => eb b o hb e) f0 f1 f3 f4 f5⟩
  self := fun _ _ _ _ _ st h => wpAny_pyIter_listiter st h
theorem turn_tuple {P : Program} {w : World} {K : PySem.W.Frag} {tg : Expr} (a it : Addr) : Turn P w K tg (Itt K a) [it] it (fun i h => h.IsTupleIter it a i) where
  mem := by simp
  obj := fun i h st b hb => by
    have e : b = it := by simpa using hb
    subst e
    obtain ⟨o, e, c, d⟩ := st
    exact ⟨o, e, fun v z => by rw [d] at z; cases z⟩
  keep := fun i h h' st k => st.at fun o e => k it (by simp) o e
  item := by
    intro X hP hw hK hc i pins s σ H E I hf st hg
    subst hP hw hK
    obtain ⟨xs, x, hq, hx⟩ := hg
    obtain ⟨its, rv, p, hz⟩ := I.tuple hq
    obtain ⟨u, hu, ru⟩ := rv.get hx
    obtain ⟨f0, f1, f2, f3, f4, f5⟩ := hf it (by simp)
    refine wpAny_pyNext_tuple_item st (show s.heap.IsTuple a its.toArray from p) (x := u) (by simpa using hu) fun h' st' sb => ?_
    have I1 : Inv X pins σ H { s with heap := h' } := I.turned (t' := s.toks) (fun b o hb e => (sb.2 b hb).trans e) f0 f1 f3 f4 f5
    obtain ⟨o, e, c, d⟩ := id st'
    exact ⟨u, rfl, go_of (s := { s with heap := h' }) e c d (by decide) ⟨x, H, I1, ru, ⟨rfl, fun ys hy => by rw [I.tuple_inj hy hq]; exact hx⟩, st', fun b hb => (hf b hb).1⟩⟩
  done := by
    intro X hP hw hK hc i pins s σ H E I hf st hg
    subst hP hw hK
    obtain ⟨xs, hq, hx⟩ := hg
    obtain ⟨its, rv, p, hz⟩ := I.tuple hq
    obtain ⟨f0, f1, f2, f3, f4, f5⟩ := hf it (by simp)
    have hl := rv.length
    exact wpAny_pyNext_tuple_end (I.ok.hd hc) st (show s.heap.IsTuple a its.toArray from p) (by simp; omega) fun h' eb => ⟨rfl, I.turned (t' := s.toks) (fun b o hb e => eb b o hb e) f0 f1 f3 f4 f5⟩
  self := fun _ _ _ _ _ st h => wpAny_pyIter_tupleiter st h
theorem turn_range {P : Program} {w : World} {K : PySem.W.Frag} {tg : Expr} (it : Addr) (lo : Int) (n : Nat) : Turn P w K tg (Itr lo n) [it] it (fun i h => IsRangeIter h it (lo + (i : Nat) * 1) ((n : Int) - (i : Nat)) 1) where
  mem := by simp
  obj := fun i h st b hb => by
    have e : b = it := by simpa using hb
    subst e
    exact ⟨_, st, fun v z => by
      have z' : Data.fields _ = Data.cell v := z
      cases z'⟩
  keep := fun i h h' st k => k it (by simp) _ st
  item := by
    intro X hP hw hK hc i pins s σ H E I hf st hg
    subst hP hw hK
    obtain ⟨f0, f1, f2, f3, f4, f5⟩ := hf it (by simp)
    have W := Walks.range (prog := X.prog) (w := X.w) (I.ok.hd hc) it lo 1 n
    refine W.item i s _ _ hg st fun v h' tk hv st' kk => ?_
    obtain ⟨t, rfl⟩ := hv
    have I1 : Inv X pins σ H { s with heap := h', toks := tk } := I.turned (fun b o hb e => kk b o (by simpa using hb) e) f0 f1 f3 f4 f5
    refine ⟨_, rfl, go_of (s := { s with heap := h', toks := tk }) (n := "range_iterator") st' rfl rfl (by decide) ⟨.int (lo + i), H, I1, ⟨t, ?_⟩, ⟨rfl, rfl⟩, st', fun b hb => (hf b hb).1⟩⟩
    rw [Int.mul_one]
  done := by
    intro X hP hw hK hc i pins s σ H E I hf st hg
    subst hP hw hK
    obtain ⟨f0, f1, f2, f3, f4, f5⟩ := hf it (by simp)
    exact wpAny_pyNext_range_end (I.ok.hd hc) st (by have : n ≤ i := hg; omega) fun h' eb => ⟨rfl, I.turned (t' := s.toks) (fun b o hb e => eb b o hb e) f0 f1 f3 f4 f5⟩
  self := fun _ _ _ _ _ st h => wpAny_pyIter_rangeiter st h
end L2
namespace L2
open PySem PySem.Spec PyProof.Rows
section
variable {X : Cx} {tg : Expr}
def iList (K : PySem.W.Frag) (tl : TE) : TI := fun σ H R => tl σ H fun x H1 => ∃ a, x = .ref a ∧ (∃ xs, SqL K H1 a xs) ∧ R (Itl K a) H1
def iTup (K : PySem.W.Frag) (tl : TE) : TI := fun σ H R => tl σ H fun x H1 => ∃ a, x = .ref a ∧ (∃ xs, SqT K H1 a xs) ∧ R (Itt K a) H1
theorem pi_list {l : Expr} {tl : TE} (hl : PE X l tl) : PI X tg l (iList X.K tl) := by
  intro pins s σ H R I h
  refine thn (hl pins s σ H _ I h) fun v s1 ⟨x, H1, I1, r1, q1⟩ => ?_
  obtain ⟨a, e, ⟨xs, hq⟩, q⟩ := q1
  subst e
  cases r1
  obtain ⟨its, rv, p, hz⟩ := I1.list hq
  refine wpAny_pyIter_list p.isList ?_
  refine ⟨s1.heap.objs.size, [s1.heap.objs.size], _, _, H1, rfl, I1.kept (t' := s1.toks) fun b o e => Heap.get?_push_of_some _ e, turn_list a _, ⟨_, Heap.get?_push_size _ rfl, rfl, rfl⟩, fun b hb => ?_, q⟩
  have e : b = s1.heap.objs.size := by simpa using hb
  subst e
  exact I1.fpOk (Nat.le_refl _) (I1.hok.fresh (Nat.le_refl _))
theorem pi_tup {l : Expr} {tl : TE} (hl : PE X l tl) : PI X tg l (iTup X.K tl) := by
  intro pins s σ H R I h
  refine thn (hl pins s σ H _ I h) fun v s1 ⟨x, H1, I1, r1, q1⟩ => ?_
  obtain ⟨a, e, ⟨xs, hq⟩, q⟩ := q1
  subst e
  cases r1
  obtain ⟨its, rv, p, hz⟩ := I1.tuple hq
  refine wpAny_pyIter_tuple (show s1.heap.IsTuple a its.toArray from p) ?_
  refine ⟨s1.heap.objs.size, [s1.heap.objs.size], _, _, H1, rfl, I1.kept (t' := s1.toks) fun b o e => Heap.get?_push_of_some _ e, turn_tuple a _, ⟨_, Heap.get?_push_size _ rfl, rfl, rfl⟩, fun b hb => ?_, q⟩
  have e : b = s1.heap.objs.size := by simpa using hb
  subst e
  exact I1.fpOk (Nat.le_refl _) (I1.hok.fresh (Nat.le_refl _))
theorem range_it {pins : List (Addr × Obj)} {σ : St} {H : Hp} {s : Shared} {R : It → Hp → Prop} {E : Value → Shared → Prop} {lo hi : Int} {t u v : Tok} {tk : Nat} (I : Inv X pins σ H s) (h1 : -(2 ^ 62) ≤ lo) (h2 : lo < 2 ^ 62) (h3 : -(2 ^ 62) ≤ hi) (h4 : hi < 2 ^ 62)
    (q : R (Itr lo (hi - lo).toNat) H) : wpAny (model X.prog X.w) X.A (pyIter (.ref s.heap.objs.size)) (PIE X pins σ tg R) E { s with heap := s.heap.push { cls := .type "range", data := .fields #[.int lo t, .int hi u, .int 1 v] }, toks := tk } := by
  refine wpAny_pyIter_range (IsRange.new ..) (small_one h1 h2 h3 h4) ?_
  have I1 : Inv X pins σ H { s with heap := s.heap.push { cls := .type "range", data := .fields #[.int lo t, .int hi u, .int 1 v] }, toks := tk } := I.kept fun b o e => Heap.get?_push_of_some _ e
  refine ⟨(s.heap.push { cls := .type "range", data := .fields #[.int lo t, .int hi u, .int 1 v] }).objs.size, [(s.heap.push { cls := .type "range", data := .fields #[.int lo t, .int hi u, .int 1 v] }).objs.size], _, _, H, rfl,
    I1.kept (t' := tk) fun b o e => Heap.get?_push_of_some _ e, turn_range _ lo (hi - lo).toNat, ?_, fun b hb => ?_, q⟩
  · have e1 : lo + ((0 : Nat) : Int) * 1 = lo := by simp
    have e2 : (((hi - lo).toNat : Nat) : Int) - ((0 : Nat) : Int) = Builtin.Range.rangeSize lo hi 1 := by rw [rangeSize_one]; split <;> omega
    show IsRangeIter _ _ (lo + ((0 : Nat) : Int) * 1) ((((hi - lo).toNat : Nat) : Int) - ((0 : Nat) : Int)) 1
    rw [e1, e2]
    exact Heap.get?_push_size _ rfl
  · have e : b = (s.heap.push { cls := .type "range", data := .fields #[.int lo t, .int hi u, .int 1 v] }).objs.size := by simpa using hb
    subst e
    exact I1.fpOk (Nat.le_refl _) (I1.hok.fresh (Nat.le_refl _))
def iRng1 (ta : TA) : TI := fun σ H R => ta σ H fun vs H1 => ∃ j : Int, vs = [.int j] ∧ -(2 ^ 62) ≤ j ∧ j < 2 ^ 62 ∧ R (Itr 0 j.toNat) H1
def iRng2 (ta : TA) : TI := fun σ H R => ta σ H fun vs H1 => ∃ i j : Int, vs = [.int i, .int j] ∧ (-(2 ^ 62) ≤ i ∧ i < 2 ^ 62 ∧ -(2 ^ 62) ≤ j ∧ j < 2 ^ 62) ∧ R (Itr i (j - i).toNat) H1
theorem pi_range1 {a : Expr} {ta : TA} {p pos : Pos} (hg : Gl X "range") (hm : X.mg "range" = none) (ha : PA X [a] ta) (hs : starEach [a] X.env = [(false, eval a X.env)] := by rfl) : PI X tg (.Call (.Name "range" p) [a] [] pos) (iRng1 ta) := by
  intro pins s σ H R I h
  refine Call_ (ld_blt I hg hm boot_range (PyProof.Rows.callWith_type1 (thn (ha pos pins s σ H _ I h) fun us s1 ⟨vs, H1, I1, r1, q1⟩ => ?_) hs rfl))
  obtain ⟨j, e, q1, q2, q⟩ := q1
  subst e
  cases r1 with
  | cons r rr =>
    cases rr
    obtain ⟨t, rfl⟩ := r
    exact call_range_1 (range_it I1 (by omega) (by omega) q1 q2 (by simpa using q))
def tFor (wi : TI) (g : TG) (tb : TS) : TS := fun D σ H => wi σ H fun J H1 => ∃ W : Nat → Nat → St → Hp → Prop, (∃ m, W 0 m σ H1) ∧ ∀ i m σ H, W i m σ H →
  (J.stop i H ∧ D.nx σ H) ∨ (J.go i H ∧ ∃ N : St → Hp → Prop, (∀ σ' H', N σ' H' → ∃ m', m' < m ∧ W (i + 1) m' σ' H') ∧ ∀ x H', J.yld i H x H' → g x σ H' fun σ2 H2 => tb { D with nx := N, ct := N, bk := D.nx } σ2 H2)
def pinsAt (fp : List Addr) (h : Heap) : List (Addr × Obj) := fp.filterMap fun b => (h.get? b).map fun o => (b, o)
theorem mem_pinsAt {fp : List Addr} {h : Heap} {b : Addr} {o : Obj} (hb : b ∈ fp) (e : h.get? b = some o) : (b, o) ∈ pinsAt fp h := List.mem_filterMap.mpr ⟨b, hb, by rw [e]; rfl⟩
theorem of_pinsAt {fp : List Addr} {h : Heap} {p : Addr × Obj} (hp : p ∈ pinsAt fp h) : p.1 ∈ fp ∧ h.get? p.1 = some p.2 := by
  obtain ⟨b, hb, e⟩ := List.mem_filterMap.mp hp
  cases q : h.get? b with
  | none => rw [q] at e; cases e
  | some o =>
    rw [q] at e
    have e' : (b, o) = p := Option.some.inj e
    subst e'
    exact ⟨hb, q⟩
theorem Inv.pinned {pins : List (Addr × Obj)} {σ : St} {H : Hp} {s : Shared} {fp : List Addr} (I : Inv X pins σ H s) (hf : ∀ b ∈ fp, FpOk X pins H b) (ho : ∀ b ∈ fp, ∃ o, s.heap.get? b = some o ∧ ∀ v, o.data ≠ .cell v) : Inv X (pins ++ pinsAt fp s.heap) σ H s :=
  I.pins_of fun p hp => (List.mem_append.mp hp).elim (fun z => I.pin p (List.mem_append_right _ z)) fun z => by
    obtain ⟨hb, e⟩ := of_pinsAt z
    obtain ⟨f0, f1, f2, _⟩ := hf p.1 hb
    obtain ⟨o, e', d⟩ := ho p.1 hb
    rw [e] at e'; cases e'
    exact ⟨e, f0, f1, f2, d⟩
theorem Inv.unpinned {pins pl : List (Addr × Obj)} {σ : St} {H : Hp} {s : Shared} (I : Inv X (pins ++ pl) σ H s) : Inv X pins σ H s := I.pins_of fun p hp => I.pin p (List.mem_append_right _ (List.mem_append_left _ hp))
theorem ps_for {iter : Expr} {body : List Stmt} {wi : TI} {g : TG} {tb : TS} {pos : Pos} (hp : PassesOwn (model X.prog X.w) X.A X.env X.xe) (hc : X.calm = true) (hi : PI X tg iter wi) (hg : PG X tg g) (hb : PSs X body tb)
    (hs : ∀ x, foldedSetIterable iter X.env x = pure x := by intro _; rfl) : PS X (.For tg iter body [] pos) (tFor wi g tb) := by
  intro pins s σ H D I h
  refine wpAny_For (thn (hi pins s σ H _ I h) fun v s1 h1 => thn h1 fun itv s2 h2 => ?_) hs
  obtain ⟨it, fp, tn, J, H2, e, I2, T, st2, f2, W, ⟨m0, w0⟩, turn⟩ := h2
  subst e
  have stat : ∀ {H' : Hp}, (∀ b ∈ fp, H' b = none) → ∀ b ∈ fp, FpOk X pins H' b := fun hn b hb => ⟨hn b hb, (f2 b hb).2⟩
  refine codeAny_forLoop_any (fun n s' => ∃ i σ' H', Inv X pins σ' H' s' ∧ tn i s'.heap ∧ (∀ b ∈ fp, H' b = none) ∧ W i n σ' H') ?_ m0 ⟨0, σ, H2, I2, st2, fun b hb => (f2 b hb).1, w0⟩
  rintro n s3 ⟨i, σ3, H3, I3, st3, fr3, w3⟩
  rcases turn i n σ3 H3 w3 with ⟨stop, qn⟩ | ⟨go, N, hN, step⟩
  · refine wpAny_passesOwn hp (thn (T.done X rfl rfl rfl hc i pins s3 σ3 H3 X.xe I3 (stat fr3) st3 stop) fun r s4 ⟨hr, I4⟩ => ?_)
    subst hr
    exact wpAny_execs_nil ⟨σ3, H3, I4, qn⟩
  · refine wpAny_passesOwn hp (thn (T.item X rfl rfl rfl hc i pins s3 σ3 H3 X.xe I3 (stat fr3) st3 go) fun r s4 ⟨u, hr, h4⟩ => ?_)
    subst hr
    refine wpAny_passesOwn hp (thn h4 fun _ s5 ⟨x, H5, I5, r5, y5, st5, fr5⟩ => ?_)
    have I5' := I5.pinned (stat fr5) (T.obj _ _ st5)
    refine wpAny_passesOwn hp (thn (hg _ s5 σ3 H5 x u _ I5' r5 (step x H5 y5)) fun _ s6 ⟨σ6, H6, I6, q6⟩ => ?_)
    refine wpAny_passesOwn hp (thn (hb _ s6 σ6 H6 _ I6 q6) fun f s7 q7 => ?_)
    have again : ∀ {σ7 : St} {H7 : Hp}, Inv X (pins ++ pinsAt fp s5.heap) σ7 H7 s7 → N σ7 H7 → ∃ m, m < n ∧ ∃ i σ' H', Inv X pins σ' H' s7 ∧ tn i s7.heap ∧ (∀ b ∈ fp, H' b = none) ∧ W i m σ' H' := fun {σ7 H7} I7 n7 => by
      obtain ⟨m', hm, w7⟩ := hN σ7 H7 n7
      refine ⟨m', hm, i + 1, σ7, H7, I7.unpinned, T.keep _ _ _ st5 fun b hb o e => (I7.pin (b, o) (List.mem_append_right _ (List.mem_append_right _ (mem_pinsAt hb e)))).1, fun b hb => ?_, w7⟩
      obtain ⟨o, e, d⟩ := T.obj _ _ st5 b hb
      exact (I7.pin (b, o) (List.mem_append_right _ (List.mem_append_right _ (mem_pinsAt hb e)))).2.1
    cases f with
    | next => obtain ⟨σ7, H7, I7, n7⟩ := q7; exact again I7 n7
    | cont => obtain ⟨σ7, H7, I7, n7⟩ := q7; exact again I7 n7
    | brk => obtain ⟨σ7, H7, I7, q7⟩ := q7; exact ⟨σ7, H7, I7.unpinned, q7⟩
    | ret v => obtain ⟨x7, σ7, H7, I7, r7, q7⟩ := q7; exact ⟨x7, σ7, H7, I7.unpinned, r7, q7⟩
end
theorem for_range {lo : Int} {n : Nat} {g : TG} {tb : TS} {D : Ends} {σ : St} {H : Hp} (Pv : Nat → St → Hp → Prop) (h0 : Pv 0 σ H)
    (hs : ∀ i σ H, i < n → Pv i σ H → g (.int (lo + i)) σ H fun σ2 H2 => tb { D with nx := Pv (i + 1), ct := Pv (i + 1), bk := D.nx } σ2 H2) (hd : ∀ σ H, Pv n σ H → D.nx σ H) :
    ∃ W : Nat → Nat → St → Hp → Prop, (∃ m, W 0 m σ H) ∧ ∀ i m σ H, W i m σ H →
      ((Itr lo n).stop i H ∧ D.nx σ H) ∨ ((Itr lo n).go i H ∧ ∃ N : St → Hp → Prop, (∀ σ' H', N σ' H' → ∃ m', m' < m ∧ W (i + 1) m' σ' H') ∧ ∀ x H', (Itr lo n).yld i H x H' → g x σ H' fun σ2 H2 => tb { D with nx := N, ct := N, bk := D.nx } σ2 H2) := by
  refine ⟨fun i m σ H => m = n - i ∧ i ≤ n ∧ Pv i σ H, ⟨n, by simp, Nat.zero_le _, h0⟩, ?_⟩
  rintro i m σ H ⟨rfl, hi, p⟩
  by_cases hlt : i < n
  · refine .inr ⟨hlt, Pv (i + 1), fun σ' H' p' => ⟨n - (i + 1), by omega, rfl, hlt, p'⟩, fun x H' y => ?_⟩
    obtain ⟨e, y⟩ := y
    subst e y
    exact hs i σ _ hlt p
  · have e : i = n := by omega
    subst e
    exact .inl ⟨Nat.le_refl _, hd σ H p⟩
end L2
namespace L2
open PySem PySem.Spec PyProof.Rows
abbrev R2 := V → V → Hp → VK → Prop
def OpR (X : Cx) (f : Value → Value → Sem Value) (r : R2) : Prop :=
  ∀ (pins : List (Addr × Obj)) (s : Shared) (σ : St) (H : Hp) (x y : V) (v u : Value) (Q : VK), Inv X pins σ H s → RelV x v → RelV y u → r x y H Q →
    wpAny (model X.prog X.w) X.A (f v u) (EP X pins σ Q) X.xe s
def UnR (X : Cx) (f : Value → Sem Value) (r : V → Hp → VK → Prop) : Prop :=
  ∀ (pins : List (Addr × Obj)) (s : Shared) (σ : St) (H : Hp) (x : V) (v : Value) (Q : VK), Inv X pins σ H s → RelV x v → r x H Q →
    wpAny (model X.prog X.w) X.A (f v) (EP X pins σ Q) X.xe s
def CallR (X : Cx) (f : Value) (r : List V → Hp → VK → Prop) : Prop :=
  ∀ (pins : List (Addr × Obj)) (s : Shared) (σ : St) (H : Hp) (xs : List V) (us : List Value) (Q : VK), Inv X pins σ H s → Vals xs us → r xs H Q →
    wpAny (model X.prog X.w) X.A (call f us) (EP X pins σ Q) X.xe s
def TruR (X : Cx) (r : V → Hp → (Bool → Hp → Prop) → Prop) : Prop :=
  ∀ (pins : List (Addr × Obj)) (s : Shared) (σ : St) (H : Hp) (x : V) (v : Value) (Q : Bool → Hp → Prop), Inv X pins σ H s → RelV x v → r x H Q →
    wpAny (model X.prog X.w) X.A (truthy v) (TP X pins σ Q) X.xe s
def tOp (r : R2) (ta tb : TE) : TE := fun σ H Q => ta σ H fun x H1 => tb σ H1 fun y H2 => r x y H2 Q
def tUn (r : V → Hp → VK → Prop) (ta : TE) : TE := fun σ H Q => ta σ H fun x H1 => r x H1 Q
def rI (C : Int → Int → Prop) (g : Int → Int → V) : R2 := fun x y H Q => ∃ i j, x = .int i ∧ y = .int j ∧ C i j ∧ Q (g i j) H
def rI0 (g : Int → Int → V) : R2 := fun x y H Q => ∃ i j, x = .int i ∧ y = .int j ∧ Q (g i j) H
def rU (g : Int → V) : V → Hp → VK → Prop := fun x H Q => ∃ i, x = .int i ∧ Q (g i) H
section
variable {X : Cx} {a b c : Expr} {ta tb tc : TE} {pos : Pos}
theorem binT (ha : PE X a ta) (hb : PE X b tb) {pins : List (Addr × Obj)} {s : Shared} {σ : St} {H : Hp} {R : V → V → Hp → Prop} (I : Inv X pins σ H s)
    (h : ta σ H fun x H1 => tb σ H1 fun y H2 => R x y H2) {Q : Value → Shared → Prop} {f : Value → Value → Sem Value}
    (hf : ∀ v u s2 x y H2, Inv X pins σ H2 s2 → RelV x v → RelV y u → R x y H2 → wpAny (model X.prog X.w) X.A (f v u) Q X.xe s2) :
    wpAny (model X.prog X.w) X.A (eval a X.env) (fun v s₁ => wpAny (model X.prog X.w) X.A (eval b X.env) (fun u s₂ => wpAny (model X.prog X.w) X.A (f v u) Q X.xe s₂) X.xe s₁) X.xe s := by
  refine thn (ha pins s σ H _ I h) fun v s1 ⟨x, H1, I1, r1, q1⟩ => ?_
  refine thn (hb pins s1 σ H1 _ I1 q1) fun u s2 ⟨y, H2, I2, r2, q2⟩ => ?_
  exact hf v u s2 x y H2 I2 r1 r2 q2
theorem pe_op {op : Operator} {r : R2} (ho : OpR X (binaryOp op) r) (ha : PE X a ta) (hb : PE X b tb) : PE X (.BinOp a op b pos) (tOp r ta tb) := by
  intro pins s σ H Q I h
  exact wpAny_BinOp (binT ha hb I h fun v u s2 x y H2 I2 rx ry q => ho pins s2 σ H2 x y v u Q I2 rx ry q)
theorem pe_un {op : UnaryOp} {r : V → Hp → VK → Prop} (ho : UnR X (unaryOp op) r) (ha : PE X a ta) : PE X (.UnaryOp op a pos) (tUn r ta) := by
  intro pins s σ H Q I h
  exact UnaryOp_ (thn (ha pins s σ H _ I h) fun v s1 ⟨x, H1, I1, r1, q1⟩ => ho pins s1 σ H1 x v Q I1 r1 q1)
theorem opI {f : Value → Value → Sem Value} {C : Int → Int → Prop} {g : Int → Int → Int}
    (rule : ∀ (i j : Int) (t u : Tok) (s : Shared) (Q : Value → Shared → Prop) (E : Value → Shared → Prop), C i j → Q (.int (g i j) s.toks) { s with toks := s.toks + 1 } → wpAny (model X.prog X.w) X.A (f (.int i t) (.int j u)) Q E s) :
    OpR X f (rI C fun i j => .int (g i j)) := by
  intro pins s σ H x y v u Q I rx ry h
  obtain ⟨i, j, rfl, rfl, hc, q⟩ := h
  obtain ⟨t, rfl⟩ := rx
  obtain ⟨t', rfl⟩ := ry
  exact rule i j t t' s _ _ hc ⟨.int (g i j), H, I.tok _, ⟨_, rfl⟩, q⟩
theorem opI0 {f : Value → Value → Sem Value} {g : Int → Int → Int}
    (rule : ∀ (i j : Int) (t u : Tok) (s : Shared) (Q : Value → Shared → Prop) (E : Value → Shared → Prop), Q (.int (g i j) s.toks) { s with toks := s.toks + 1 } → wpAny (model X.prog X.w) X.A (f (.int i t) (.int j u)) Q E s) :
    OpR X f (rI0 fun i j => .int (g i j)) := by
  intro pins s σ H x y v u Q I rx ry h
  obtain ⟨i, j, rfl, rfl, q⟩ := h
  obtain ⟨t, rfl⟩ := rx
  obtain ⟨t', rfl⟩ := ry
  exact rule i j t t' s _ _ ⟨.int (g i j), H, I.tok _, ⟨_, rfl⟩, q⟩
theorem opB0 {f : Value → Value → Sem Value} {g : Int → Int → Bool}
    (rule : ∀ (i j : Int) (t u : Tok) (s : Shared) (Q : Value → Shared → Prop) (E : Value → Shared → Prop), Q (.bool (g i j)) s → wpAny (model X.prog X.w) X.A (f (.int i t) (.int j u)) Q E s) :
    OpR X f (rI0 fun i j => .bl (g i j)) := by
  intro pins s σ H x y v u Q I rx ry h
  obtain ⟨i, j, rfl, rfl, q⟩ := h
  obtain ⟨t, rfl⟩ := rx
  obtain ⟨t', rfl⟩ := ry
  exact rule i j t t' s _ _ ⟨.bl (g i j), H, I, rfl, q⟩
def CDiv (i j : Int) : Prop := 0 < j ∧ j < 1073741824
def CDivN (i j : Int) : Prop := j ≠ 0 ∧ j.natAbs < 1073741824
def CPow (i j : Int) : Prop := 0 ≤ j ∧ j ≤ 1000000 ∧ i.natAbs < 2 ^ 64
def CMul (i j : Int) : Prop := (-(2 ^ 64) < i ∧ i < 2 ^ 64) ∨ (-(2 ^ 64) < j ∧ j < 2 ^ 64)
theorem CMul.ok {i j : Int} (h : CMul i j) : IntMulOk i j := by
  rcases h with ⟨h1, h2⟩ | ⟨h1, h2⟩
  · exact .of_left (intBits_le_64 h1 h2)
  · exact .of_right (intBits_le_64 h1 h2)
theorem op_add : OpR X (binaryOp .Add) (rI0 fun i j => .int (i + j)) := opI0 fun _ _ _ _ _ _ _ q => add_int q
theorem op_sub : OpR X (binaryOp .Sub) (rI0 fun i j => .int (i - j)) := opI0 fun _ _ _ _ _ _ _ q => sub_int q
theorem op_mul : OpR X (binaryOp .Mult) (rI CMul fun i j => .int (i * j)) := opI fun _ _ _ _ _ _ _ hc q => mul_int q hc.ok
theorem op_fdiv : OpR X (binaryOp .FloorDiv) (rI CDiv fun i j => .int (i / j)) := opI fun i j _ _ _ _ _ hc q => by
  have h1 : (0 : Int) < j := hc.1
  have h2 : j < 1073741824 := hc.2
  exact floordiv_int (by omega) (by rw [Int.fdiv_eq_ediv_of_nonneg i (by omega)]; exact q) (.inl (PyProof.noPylong_small (by omega)))
theorem op_mod : OpR X (binaryOp .Mod) (rI (fun _ j => 0 < j) fun i j => .int (i % j)) := opI fun i j _ _ _ _ _ hc q => by
  have h1 : (0 : Int) < j := hc
  exact mod_int' (by omega) (by rw [Int.fmod_eq_emod_of_nonneg i (by omega)]; exact q)
theorem op_pow : OpR X (binaryOp .Pow) (rI CPow fun i j => .int (i ^ j.toNat)) := opI fun _ _ _ _ _ _ _ hc q => pow_int_small hc.1 hc.2.1 hc.2.2 q
theorem unI {f : Value → Sem Value} {g : Int → Int}
    (rule : ∀ (i : Int) (t : Tok) (s : Shared) (Q : Value → Shared → Prop) (E : Value → Shared → Prop), Q (.int (g i) s.toks) { s with toks := s.toks + 1 } → wpAny (model X.prog X.w) X.A (f (.int i t)) Q E s) :
    UnR X f (rU fun i => .int (g i)) := by
  intro pins s σ H x v Q I rx h
  obtain ⟨i, rfl, q⟩ := h
  obtain ⟨t, rfl⟩ := rx
  exact rule i t s _ _ ⟨.int (g i), H, I.tok _, ⟨_, rfl⟩, q⟩
theorem un_neg : UnR X (unaryOp .USub) (rU fun i => .int (-i)) := unI fun _ _ _ _ _ q => neg_int q
end
def scal : V → V → Bool
  | .non, .non => true | .non, .int _ => true | .int _, .non => true | .non, .bl _ => true | .bl _, .non => true | .non, .str _ => true | .str _, .non => true
  | .int _, .int _ => true | .bl _, .bl _ => true | .str _, .str _ => true | .byt _, .byt _ => true
  | .int _, .str _ => true | .str _, .int _ => true | .bl _, .str _ => true | .str _, .bl _ => true
  | _, _ => false
def rEq : R2 := fun x y H Q => scal x y = true ∧ Q (.bl (decide (x = y))) H
def rNe : R2 := fun x y H Q => scal x y = true ∧ Q (.bl (!decide (x = y))) H
theorem dec_int {i j : Int} : decide (V.int i = V.int j) = (i == j) := by
  rw [Bool.eq_iff_iff]
  simp
theorem dec_bl {i j : Bool} : decide (V.bl i = V.bl j) = (i == j) := by
  rw [Bool.eq_iff_iff]
  simp
theorem dec_str {i j : Str} : decide (V.str i = V.str j) = (i == j) := by
  rw [Bool.eq_iff_iff]
  simp
theorem dec_byt {i j : Array UInt8} : decide (V.byt i = V.byt j) = (i.toList == j.toList) := by
  rw [Bool.eq_iff_iff]
  cases i
  cases j
  simp
section
variable {X : Cx} {a b c : Expr} {ta tb tc : TE} {pos : Pos}
theorem fin_bl {pins : List (Addr × Obj)} {σ : St} {H : Hp} {s : Shared} {Q : VK} {k k' : Bool} (I : Inv X pins σ H s) (q : Q (.bl k) H) (e : k = k') : EP X pins σ Q (.bool k') s := by
  subst e
  exact ⟨.bl k, H, I, rfl, q⟩
theorem op_eq : OpR X (compareOp .Eq) rEq := by
  intro pins s σ H x y v u Q I rx ry h
  obtain ⟨hs, q⟩ := h
  cases x with
  | non =>
    cases rx
    cases y with
    | non => cases ry; exact PySem.EqNone.eq_none_none (fin_bl I q (by simp))
    | bl j => cases ry; exact PySem.EqNone.eq_none_bool (fin_bl I q (by simp))
    | int j => obtain ⟨t', rfl⟩ := ry; exact PySem.EqNone.eq_none_int (fin_bl I q (by simp))
    | str j => obtain ⟨t', rfl⟩ := ry; exact PySem.EqNone.eq_none_str (fin_bl I q (by simp))
    | _ => exact absurd (show false = true from hs) Bool.false_ne_true
  | bl i =>
    cases rx
    cases y with
    | non => cases ry; exact PySem.EqNone.eq_bool_none (fin_bl I q (by simp))
    | bl j => cases ry; exact eq_bool (fin_bl I q dec_bl)
    | str j => obtain ⟨t', rfl⟩ := ry; exact PySem.EqMixed.eq_bool_str (fin_bl I q (by simp))
    | _ => exact absurd (show false = true from hs) Bool.false_ne_true
  | int i =>
    obtain ⟨t, rfl⟩ := rx
    cases y with
    | non => cases ry; exact PySem.EqNone.eq_int_none (fin_bl I q (by simp))
    | int j => obtain ⟨t', rfl⟩ := ry; exact eq_int (fin_bl I q dec_int)
    | str j => obtain ⟨t', rfl⟩ := ry; exact PySem.EqMixed.eq_int_str (fin_bl I q (by simp))
    | _ => exact absurd (show false = true from hs) Bool.false_ne_true
  | str i =>
    obtain ⟨t, rfl⟩ := rx
    cases y with
    | non => cases ry; exact PySem.EqNone.eq_str_none (fin_bl I q (by simp))
    | bl j => cases ry; exact PySem.EqMixed.eq_str_bool (fin_bl I q (by simp))
    | int j => obtain ⟨t', rfl⟩ := ry; exact PySem.EqMixed.eq_str_int (fin_bl I q (by simp))
    | str j => obtain ⟨t', rfl⟩ := ry; exact eq_str (fin_bl I q dec_str)
    | _ => exact absurd (show false = true from hs) Bool.false_ne_true
  | byt i =>
    obtain ⟨t, rfl⟩ := rx
    cases y with
    | byt j => obtain ⟨t', rfl⟩ := ry; exact PySem.W.eq_bytes (fin_bl I q dec_byt)
    | _ => exact absurd (show false = true from hs) Bool.false_ne_true
  | _ => cases y <;> exact absurd (show false = true from hs) Bool.false_ne_true
theorem op_ne : OpR X (compareOp .NotEq) rNe := by
  intro pins s σ H x y v u Q I rx ry h
  obtain ⟨hs, q⟩ := h
  cases x with
  | non =>
    cases rx
    cases y with
    | non => cases ry; exact PySem.EqNone.ne_none_none (fin_bl I q (by simp))
    | bl j => cases ry; exact PySem.EqNone.ne_none_bool (fin_bl I q (by simp))
    | int j => obtain ⟨t', rfl⟩ := ry; exact PySem.EqNone.ne_none_int (fin_bl I q (by simp))
    | str j => obtain ⟨t', rfl⟩ := ry; exact PySem.EqNone.ne_none_str (fin_bl I q (by simp))
    | _ => exact absurd (show false = true from hs) Bool.false_ne_true
  | bl i =>
    cases rx
    cases y with
    | non => cases ry; exact PySem.EqNone.ne_bool_none (fin_bl I q (by simp))
    | bl j => cases ry; exact ne_bool (fin_bl I q (congrArg not dec_bl))
    | str j => obtain ⟨t', rfl⟩ := ry; exact PySem.EqMixed.ne_bool_str (fin_bl I q (by simp))
    | _ => exact absurd (show false = true from hs) Bool.false_ne_true
  | int i =>
    obtain ⟨t, rfl⟩ := rx
    cases y with
    | non => cases ry; exact PySem.EqNone.ne_int_none (fin_bl I q (by simp))
    | int j => obtain ⟨t', rfl⟩ := ry; exact ne_int (fin_bl I q (congrArg not dec_int))
    | str j => obtain ⟨t', rfl⟩ := ry; exact PySem.EqMixed.ne_int_str (fin_bl I q (by simp))
    | _ => exact absurd (show false = true from hs) Bool.false_ne_true
  | str i =>
    obtain ⟨t, rfl⟩ := rx
    cases y with
    | non => cases ry; exact PySem.EqNone.ne_str_none (fin_bl I q (by simp))
    | bl j => cases ry; exact PySem.EqMixed.ne_str_bool (fin_bl I q (by simp))
    | int j => obtain ⟨t', rfl⟩ := ry; exact PySem.EqMixed.ne_str_int (fin_bl I q (by simp))
    | str j => obtain ⟨t', rfl⟩ := ry; exact ne_str (fin_bl I q (congrArg not dec_str))
    | _ => exact absurd (show false = true from hs) Bool.false_ne_true
  | byt i =>
    obtain ⟨t, rfl⟩ := rx
    cases y with
    | byt j => obtain ⟨t', rfl⟩ := ry; exact PySem.W.ne_bytes (fin_bl I q (congrArg not dec_byt))
    | _ => exact absurd (show false = true from hs) Bool.false_ne_true
  | _ => cases y <;> exact absurd (show false = true from hs) Bool.false_ne_true
theorem op_lt : OpR X (compareOp .Lt) (rI0 fun i j => .bl (decide (i < j))) := opB0 fun _ _ _ _ _ _ _ q => lt_int q
theorem op_le : OpR X (compareOp .LtE) (rI0 fun i j => .bl (decide (i ≤ j))) := opB0 fun _ _ _ _ _ _ _ q => le_int q
theorem op_gt : OpR X (compareOp .Gt) (rI0 fun i j => .bl (decide (j < i))) := opB0 fun _ _ _ _ _ _ _ q => gt_int q
theorem op_ge : OpR X (compareOp .GtE) (rI0 fun i j => .bl (decide (j ≤ i))) := opB0 fun _ _ _ _ _ _ _ q => ge_int q
theorem op_isN : OpR X (compareOp .Is) (fun x y H Q => y = .non ∧ Q (.bl (decide (x = .non))) H) := by
  intro pins s σ H x y v u Q I rx ry h
  obtain ⟨rfl, q⟩ := h
  cases ry
  refine is_none_gen (fin_bl I q ?_)
  cases x <;> first
    | (cases rx; rfl)
    | (obtain ⟨t, rfl⟩ := rx; rfl)
theorem op_notin_str : OpR X (compareOp .NotIn) (fun x y H Q => ∃ i j, x = .str i ∧ y = .str j ∧ Q (.bl (!(!(Builtin.Str.occurrences j i 0 j.length 1).isEmpty))) H) := by
  intro pins s σ H x y v u Q I rx ry h
  obtain ⟨i, j, rfl, rfl, q⟩ := h
  obtain ⟨t, rfl⟩ := rx
  obtain ⟨t', rfl⟩ := ry
  exact notIn_str (fin_bl I q rfl)
def isObj : HO → Bool
  | .lst _ => true
  | .ins _ _ _ => true
  | _ => false
theorem nomark (b : Expr) {op : CmpOp} (h : op ≠ .In := by decide) (h2 : op ≠ .NotIn := by decide) : behindInMarks op b = false := by
  have e1 : (op == CmpOp.In) = false := by cases op <;> first | rfl | exact absurd rfl h
  have e2 : (op == CmpOp.NotIn) = false := by cases op <;> first | rfl | exact absurd rfl h2
  cases b <;> simp [behindInMarks, e1, e2]
theorem pe_cmpR {op : CmpOp} {r : R2} (ho : OpR X (compareOp op) r) (ha : PE X a ta) (hb : PE X b tb) (hm : behindInMarks op b = false) : PE X (.Compare a [op] [b] pos) (tOp r ta tb) := by
  intro pins s σ H Q I h
  exact wpAny_Compare1 (binT ha hb I h fun v u s2 x y H2 I2 rx ry q => ho pins s2 σ H2 x y v u Q I2 rx ry q) hm
def tTest (t : TE) : TT := fun σ H Q => t σ H fun x H' => ∃ k, x = .bl k ∧ Q k H'
theorem pt_cmpR {op : CmpOp} {r : R2} (ho : OpR X (compareOp op) r) (ha : PE X a ta) (hb : PE X b tb) (hm : behindInMarks op b = false) : PT X (.Compare a [op] [b] pos) (tTest (tOp r ta tb)) := by
  intro pins s σ H Q I h
  refine wpAny_isTrue_Compare1 (thn (ha pins s σ H _ I h) fun v s1 ⟨x, H1, I1, r1, q1⟩ => thn (hb pins s1 σ H1 _ I1 q1) fun u s2 ⟨y, H2, I2, r2, q2⟩ =>
    thn (ho pins s2 σ H2 x y v u _ I2 r1 r2 q2) fun c s3 ⟨z, H3, I3, r3, k, e, q3⟩ => ?_) hm
  subst e
  cases r3
  exact wpAny_truthy_bool ⟨H3, I3, q3⟩
def tChain (r r' : R2) (ta tb tc : TE) : TE := fun σ H Q => ta σ H fun x H1 => tb σ H1 fun y H2 => r x y H2 fun z H3 => ∃ k, z = .bl k ∧
  (if k = true then tc σ H3 fun w' H4 => r' y w' H4 Q else Q (.bl false) H3)
theorem pt_chain {op op' : CmpOp} {r r' : R2} (ho : OpR X (compareOp op) r) (ho' : OpR X (compareOp op') r') (ha : PE X a ta) (hb : PE X b tb) (hc : PE X c tc)
    (hm : lastMarks [op, op'] [b, c] = false := by with_unfolding_all rfl) : PT X (.Compare a [op, op'] [b, c] pos) (tTest (tChain r r' ta tb tc)) := by
  intro pins s σ H Q I h
  refine isTrue_chain (thn (ha pins s σ H _ I h) fun v s1 ⟨x, H1, I1, r1, q1⟩ => test_link (thn (hb pins s1 σ H1 _ I1 q1) fun u s2 ⟨y, H2, I2, r2, q2⟩ =>
    thn (ho pins s2 σ H2 x y v u _ I2 r1 r2 q2) fun d s3 ⟨z, H3, I3, r3, k, e, q3⟩ => ?_)) hm
  subst e
  cases r3
  refine wpAny_truthy_bool ?_
  cases k with
  | false =>
    obtain ⟨k', e', q'⟩ := q3
    cases e'
    exact ite_ff ⟨H3, I3, q'⟩
  | true =>
    refine ite_tt (test_last (thn (hc pins s3 σ H3 _ I3 q3) fun w' s4 ⟨z', H4, I4, r4, q4⟩ => thn (ho' pins s4 σ H4 y z' u w' _ I4 r2 r4 q4) fun d' s5 ⟨z2, H5, I5, r5, k2, e2, q5⟩ => ?_))
    subst e2
    cases r5
    exact wpAny_truthy_bool ⟨H5, I5, q5⟩
def TruV (K : PySem.W.Frag) (x : V) (H : Hp) (k : Bool) : Prop :=
  match x with
  | .non => k = false
  | .bl b => k = b
  | .int i => k = (i != 0)
  | .str y => y.length ≤ sizeLine ∧ k = ((y.length : Int) != 0)
  | .byt y => y.size ≤ sizeLine ∧ k = ((y.size : Int) != 0)
  | .ref p => (∃ xs, SqL K H p xs ∧ k = !xs.isEmpty) ∨ (∃ xs, SqT K H p xs ∧ k = !xs.isEmpty) ∨ ∃ kvs, H p = some (.dK kvs) ∧ k = !kvs.isEmpty
  | _ => False
theorem line63 : (sizeLine : Nat) < 2 ^ 63 := by rw [sizeLine_eq]; decide
theorem op_add_str : OpR X (binaryOp .Add) (fun x y H Q => ∃ i j, x = .str i ∧ y = .str j ∧ i.length + j.length ≤ sizeLine ∧ Q (.str (i ++ j)) H) := by
  intro pins s σ H x y v u Q I rx ry h
  obtain ⟨i, j, rfl, rfl, hz, q⟩ := h
  obtain ⟨t, rfl⟩ := rx
  obtain ⟨t', rfl⟩ := ry
  exact add_str (fun t' tk => ⟨.str (i ++ j), H, I.tok _, ⟨_, rfl⟩, q⟩) hz
def PlainIxT (b : Expr) : Prop := ∀ o i, subscripted b false o i = operate [o, i] (getItem o i)
theorem pe_item_str (ha : PE X a ta) (hb : PE X b tb) (hs : PlainIxT b) :
    PE X (.Subscript a b pos) (tOp (fun x y H Q => ∃ z i c, x = .str z ∧ y = .int i ∧ 0 ≤ i ∧ i < 2 ^ 63 ∧ i < z.length ∧ z.cps[i.toNat]? = some c ∧ Q (.str ⟨#[c]⟩) H) ta tb) := by
  intro pins s σ H Q I h
  refine Subscript_ (binT ha hb I h fun v u s2 x y H2 I2 rx ry q => ?_)
  obtain ⟨z, i, c, rfl, rfl, h0, h63, h1, hc, q⟩ := q
  obtain ⟨t, rfl⟩ := rx
  obtain ⟨t', rfl⟩ := ry
  have e : seqIndex? i z.length = some i.toNat := PySem.StrLaws.seqIndex_nonneg h0 h1
  exact tail_any (typeIs_str s2 z t) slot_str_getitem.lookup (getItem_str (c := c) (by
    have e1 : decide (i < -(2 ^ 63 : Int)) = false := decide_eq_false (by omega)
    have e2 : decide (i ≥ 2 ^ 63) = false := decide_eq_false (by omega)
    rw [e1, e2] <;> rfl) (by rw [e]; exact hc) ⟨.str ⟨#[c]⟩, H2, I2.tok _, ⟨_, rfl⟩, q⟩) (hs _ _)
theorem vals1 {x : V} {us : List Value} (r : Vals [x] us) : ∃ u, us = [u] ∧ RelV x u := by
  cases r with
  | cons r1 r2 => cases r2; exact ⟨_, rfl, r1⟩
theorem vals2 {x y : V} {us : List Value} (r : Vals [x, y] us) : ∃ u w', us = [u, w'] ∧ RelV x u ∧ RelV y w' := by
  cases r with
  | cons r1 r2 =>
    cases r2 with
    | cons r3 r4 => cases r4; exact ⟨_, _, rfl, r1, r3⟩
theorem call_max2 (hc : X.calm = true) : CallR X (.builtin "max") (fun xs H Q => ∃ i j, xs = [.int i, .int j] ∧ Q (.int (if j > i then j else i)) H) := by
  intro pins s σ H xs us Q I r h
  obtain ⟨i, j, rfl, q⟩ := h
  obtain ⟨u, w', rfl, ⟨t, rfl⟩, ⟨t', rfl⟩⟩ := vals2 r
  refine max_two_ints (I.ok.hd hc) fun h' tk k => ⟨_, H, I.kept k, ?_, q⟩
  by_cases hj : j > i
  · rw [if_pos hj, if_pos hj]; exact ⟨_, rfl⟩
  · rw [if_neg hj, if_neg hj]; exact ⟨_, rfl⟩
theorem call_min2 (hc : X.calm = true) : CallR X (.builtin "min") (fun xs H Q => ∃ i j, xs = [.int i, .int j] ∧ Q (.int (if j < i then j else i)) H) := by
  intro pins s σ H xs us Q I r h
  obtain ⟨i, j, rfl, q⟩ := h
  obtain ⟨u, w', rfl, ⟨t, rfl⟩, ⟨t', rfl⟩⟩ := vals2 r
  refine min_two_ints (I.ok.hd hc) fun h' tk k => ⟨_, H, I.kept k, ?_, q⟩
  by_cases hj : j < i
  · rw [if_pos hj, if_pos hj]; exact ⟨_, rfl⟩
  · rw [if_neg hj, if_neg hj]; exact ⟨_, rfl⟩
theorem call_int1 : CallR X (.type "int") (fun xs H Q => (∃ i, xs = [.int i] ∧ Q (.int i) H) ∨ ∃ k, xs = [.bl k] ∧ Q (.int (if k then 1 else 0)) H) := by
  intro pins s σ H xs us Q I r h
  rcases h with ⟨i, rfl, q⟩ | ⟨k, rfl, q⟩
  · obtain ⟨u, rfl, t, rfl⟩ := vals1 r
    exact call_int_int ⟨.int i, H, I, ⟨_, rfl⟩, q⟩
  · obtain ⟨u, rfl, r1⟩ := vals1 r
    cases r1
    exact call_int_bool ⟨.int (if k then 1 else 0), H, I.tok _, ⟨_, rfl⟩, q⟩
theorem call_str_int : CallR X (.type "str") (fun xs H Q => ∃ i, xs = [.int i] ∧ i.natAbs.log2 < 1920 ∧ Q (.str (toString i)) H) := by
  intro pins s σ H xs us Q I r h
  obtain ⟨i, rfl, hz, q⟩ := h
  obtain ⟨u, rfl, t, rfl⟩ := vals1 r
  exact PySem.P.str_of_int hz ⟨.str _, H, I.tok _, ⟨_, rfl⟩, q⟩
def LenV (K : PySem.W.Frag) (x : V) (H : Hp) (n : Nat) : Prop :=
  match x with
  | .str y => y.length ≤ sizeLine ∧ n = y.length
  | .byt y => y.size ≤ sizeLine ∧ n = y.size
  | .ref p => (∃ xs, SqL K H p xs ∧ n = xs.length) ∨ ∃ xs, SqT K H p xs ∧ n = xs.length
  | _ => False
end
end L2
namespace L2
open PySem PySem.Spec PyProof.Rows
structure ObjM (h : Heap) (x dx C : Addr) (mA : Str → Option Value) : Prop where
  obj : h.get? x = some (PySem.W.instObj C dx)
  ns : h.Ns1 dx mA
  ne : dx ≠ x
theorem lookIn_ns {h : Heap} {dx : Addr} {mA : Str → Option Value} (n : h.Ns1 dx mA) : ∃ od, h.get? dx = some od ∧ ∀ name, PySem.W.lookIn name od = some (mA name) := by
  obtain ⟨o, es, ep, ho, hd, hk, _, hm⟩ := n
  refine ⟨o, ho, fun name => ?_⟩
  have e := hm name
  unfold nsFind findBy at e
  rw [← Array.find?_toList] at e
  unfold PySem.W.lookIn
  rw [hd]
  dsimp only
  split
  · rename_i y q
    rw [q] at e
    exact congrArg some e
  · rename_i q
    rw [q] at e
    have a : es.toList.any (·.refKey) = false := by
      rw [List.any_eq_false]
      intro y hy
      obtain ⟨z, t, hkey⟩ := hk y (Array.mem_toList_iff.mp hy)
      simp [DictEntry.refKey, hkey]
    have a' : ¬ es.toList.any (·.refKey) = true := by rw [a]; exact Bool.false_ne_true
    rw [if_neg a']
    exact congrArg some e
theorem ObjM.look {h : Heap} {x dx C : Addr} {mA : Str → Option Value} (I : ObjM h x dx C mA) : ∃ od, PySem.W.InstAt h x (PySem.W.instObj C dx) C (some od) ∧ ∀ name, PySem.W.lookIn name od = some (mA name) :=
  let ⟨od, ho, hl⟩ := lookIn_ns I.ns
  ⟨od, ⟨I.obj, rfl, rfl, ho⟩, hl⟩
section
variable {prog : Program} {w : World} {A : Around} {E : Value → Shared → Prop} {s : Shared} {K : PySem.W.Frag} {x dx C f : Addr} {mA : Str → Option Value} {name : Str} {v : Value}
end
def putF (f : Str) (v : V) : List (Str × V) → List (Str × V)
  | [] => [(f, v)]
  | (g, x) :: r => if g = f then (g, v) :: r else (g, x) :: putF f v r
section
variable {P : Program} {w : World} {H H' : Hp} {h h' : Heap} {a C dx : Addr} {fs fs' : List (Str × V)}
theorem ins_get (hok : HOk P w H h) (e : H a = some (.ins C dx fs)) : ∃ mA, ObjM h a dx C mA ∧ (∀ f, RelO (fs.lookup f) (mA f)) ∧ PySem.Within mA (fs.map (·.1)) ∧ fs.length ≤ 1000 ∧ H dx = some (.own a) := by
  obtain ⟨d, z, ne, ob, mA, n, r, q⟩ := (show ObjOk P w H h a (.ins C dx fs) from hok a _ e)
  exact ⟨mA, ⟨ob, n, ne⟩, r, q, z, d⟩
end
structure Cls (K : PySem.W.Frag) (C : Addr) : Prop where
  pg : PySem.W.plainGet K C Str.empty = true
  hd : PySem.W.hasDictIn K C = true
  po : PySem.W.plainOver K C = true
  sa : PySem.W.findIn K (.ref C) "__setattr__" = some (some (.builtin "object.__setattr__"))
theorem Cls.get {K : PySem.W.Frag} {C : Addr} (c : Cls K C) (f : Str) : PySem.W.plainGet K C f = true := c.pg
def NoAttr (K : PySem.W.Frag) (C : Addr) (f : Str) : Prop := PySem.W.findIn K (.ref C) f = some none
structure Con (K : PySem.W.Frag) (C : Addr) (f : Str) (v : V) (u : Value) : Prop where
  at_ : PySem.W.findIn K (.ref C) f = some (some u)
  rel : RelV v u
  get : PySem.W.specialIn K u "__get__" = some none
  cp : PySem.W.copiedNames.contains f = false
structure Meth (K : PySem.W.Frag) (C : Addr) (m : Str) (f : Addr) : Prop where
  at_ : PySem.W.findIn K (.ref C) m = some (some (.ref f))
  fn : PySem.W.isFn K (.ref f) = true
  kp : PySem.W.keepIn K (.ref f) = true
section
variable {X : Cx} {pins : List (Addr × Obj)} {σ : St} {H : Hp} {s : Shared} {a C dx : Addr} {fs : List (Str × V)} {f : Str} {v : V} {A : Around} {E : Value → Shared → Prop}
end
def tFld (K : PySem.W.Frag) (ta : TE) (f : Str) : TE := fun σ H Q => ta σ H fun x H1 => ∃ a C dx fs v, x = .ref a ∧ H1 a = some (.ins C dx fs) ∧ Cls K C ∧ NoAttr K C f ∧ fs.lookup f = some v ∧ Q v H1
def tCon (K : PySem.W.Frag) (ta : TE) (f : Str) : TE := fun σ H Q => ta σ H fun x H1 => ∃ a C dx fs v u, x = .ref a ∧ H1 a = some (.ins C dx fs) ∧ Cls K C ∧ Con K C f v u ∧ fs.lookup f = none ∧ Q v H1
def sFld (K : PySem.W.Frag) (ta tv : TE) (f : Str) : TS := fun D σ H => tv σ H fun y H1 => ta σ H1 fun x H2 => ∃ a C dx fs, x = .ref a ∧ H2 a = some (.ins C dx fs) ∧ Cls K C ∧ NoAttr K C f ∧ fs.length < 1000 ∧
  D.nx σ (upd H2 a (.ins C dx (putF f y fs)))
def InOp (X : Cx) (op : Operator) (rd : V → V → Hp → VK → Prop) : Prop :=
  ∀ (pins : List (Addr × Obj)) (s : Shared) (σ : St) (H : Hp) (x y : V) (u v : Value) (Q : VK), Inv X pins σ H s → RelV x u → RelV y v → rd x y H Q → wpAny (model X.prog X.w) X.A (inplaceOp op u v) (EP X pins σ Q) X.xe s
def sFldAug (K : PySem.W.Frag) (ta tv : TE) (rd : V → V → Hp → VK → Prop) (f : Str) : TS := fun D σ H => ta σ H fun x H1 => ∃ a C dx fs v, x = .ref a ∧ H1 a = some (.ins C dx fs) ∧ Cls K C ∧ NoAttr K C f ∧ fs.lookup f = some v ∧
  tv σ H1 fun y H2 => rd v y H2 fun z H3 => ∃ dx' fs', H3 a = some (.ins C dx' fs') ∧ fs'.length < 1000 ∧ D.nx σ (upd H3 a (.ins C dx' (putF f z fs')))
section
variable {X : Cx} {o e value : Expr} {f : Str} {pos pos' tpos : Pos} {ta tv : TE}
def rAdd : V → V → Hp → VK → Prop := fun x y H Q => ∃ i j, x = .int i ∧ y = .int j ∧ Q (.int (i + j)) H
def rSub : V → V → Hp → VK → Prop := fun x y H Q => ∃ i j, x = .int i ∧ y = .int j ∧ Q (.int (i - j)) H
end
section
variable {X : Cx} {pins : List (Addr × Obj)} {σ : St} {H : Hp} {s : Shared} {A : Around} {E : Value → Shared → Prop} {Q : Value → Shared → Prop} {c : Value} {b : Bool}
inductive TyOf (K : PySem.W.Frag) (H : Hp) : V → Value → Prop where
  | non : TyOf K H .non (.type "NoneType")
  | bl (x : Bool) : TyOf K H (.bl x) (.type "bool")
  | int (i : Int) : TyOf K H (.int i) (.type "int")
  | str (x : Str) : TyOf K H (.str x) (.type "str")
  | flt (x : UInt64) : TyOf K H (.flt x) (.type "float")
  | lst {a : Addr} {xs : List V} (e : H a = some (.lst xs)) : TyOf K H (.ref a) (.type "list")
  | frz {a : Addr} {o : Obj} {xs : List V} (e : H a = some (.frz o (.lst xs))) : TyOf K H (.ref a) (.type "list")
  | tup {a : Addr} {xs : List V} (e : H a = some (.tup xs)) : TyOf K H (.ref a) (.type "tuple")
  | dK {a : Addr} {kvs : List (Key × V)} (e : H a = some (.dK kvs)) : TyOf K H (.ref a) (.type "dict")
  | dT {a : Addr} {kvs : List (List Key × V)} (e : H a = some (.dT kvs)) : TyOf K H (.ref a) (.type "dict")
  | ins {a C dx : Addr} {fs : List (Str × V)} (e : H a = some (.ins C dx fs)) (cl : Cls K C) (ha : PySem.W.findIn K (.ref C) "__class__" = some (some (.builtin "object.__class__")))
      (hn : PySem.W.specialIn K (.builtin "object.__class__") "__get__" = some (some (.builtin "getset_descriptor.__get__"))) (htk : PySem.W.takesIn K (.builtin "object.__class__") = some true)
      (hm : PySem.W.mroIn K C (.type "object") = some true) : TyOf K H (.ref a) (.ref C)
theorem isinst_ok {x : V} {u t : Value} (I : Inv X pins σ H s) (rx : RelV x u) (ty : TyOf X.K H x t) (e : PySem.W.kitOne X.K t c = some b) (h : ∀ tk, Q (.bool b) { s with toks := tk }) :
    wpAny (model X.prog X.w) A (call (.builtin "isinstance") [u, c]) Q E s := by
  cases ty with
  | non => cases (show u = Value.none from rx); exact PySem.W.kia_one PySem.W.kitx_none I.kIn True.intro e (fun z => nomatch z) h
  | bl y => cases (show u = Value.bool y from rx); exact PySem.W.kia_one PySem.W.kitx_bool I.kIn True.intro e (fun z => nomatch z) h
  | int i => obtain ⟨t, q⟩ := (show ∃ t, u = Value.int i t from rx); cases q; exact PySem.W.kia_one PySem.W.kitx_int I.kIn True.intro e (fun z => nomatch z) h
  | str y => obtain ⟨t, q⟩ := (show ∃ t, u = Value.str y t from rx); cases q; exact PySem.W.kia_one PySem.W.kitx_str I.kIn True.intro e (fun z => nomatch z) h
  | flt y => obtain ⟨t, q⟩ := (show ∃ t, u = Value.float y t from rx); cases q; exact PySem.W.kia_one PySem.W.kitx_float I.kIn True.intro e (fun z => nomatch z) h
  | @lst a xs ea =>
    cases (show u = Value.ref a from rx)
    obtain ⟨_, _, n, _, h1⟩ := (show ObjOk X.prog X.w H s.heap a (.lst xs) from I.hok a _ ea)
    exact PySem.W.kia_one PySem.W.kitx_list I.kIn ⟨_, h1, rfl⟩ e (fun z => nomatch z) h
  | @frz a ob xs ea =>
    cases (show u = Value.ref a from rx)
    obtain ⟨_, _, _, n, _, h1⟩ := (show ObjOk X.prog X.w H s.heap a (.frz ob (.lst xs)) from I.hok a _ ea)
    exact PySem.W.kia_one PySem.W.kitx_list I.kIn ⟨_, h1, rfl⟩ e (fun z => nomatch z) h
  | @tup a xs ea =>
    cases (show u = Value.ref a from rx)
    obtain ⟨_, _, _, p⟩ := (show ObjOk X.prog X.w H s.heap a (.tup xs) from I.hok a _ ea)
    obtain ⟨o, h1, h2, _⟩ := p
    exact PySem.W.kia_one PySem.W.kitx_tuple I.kIn ⟨o, h1, h2⟩ e (fun z => nomatch z) h
  | @dK a kvs ea =>
    cases (show u = Value.ref a from rx)
    obtain ⟨_, _, vs, _, p⟩ := (show ObjOk X.prog X.w H s.heap a (.dK kvs) from I.hok a _ ea)
    obtain ⟨o, es, ep, h1, h2, _⟩ := p
    exact PySem.W.kia_one PySem.W.kitx_dict I.kIn ⟨o, h1, h2.1⟩ e (fun z => nomatch z) h
  | @dT a kvs ea =>
    cases (show u = Value.ref a from rx)
    obtain ⟨_, _, xs, _, o, es, ep, h1, h2, _⟩ := (show ObjOk X.prog X.w H s.heap a (.dT kvs) from I.hok a _ ea)
    exact PySem.W.kia_one PySem.W.kitx_dict I.kIn ⟨o, h1, h2.1⟩ e (fun z => nomatch z) h
  | @ins a C dx fs ea cl ha hn htk hm =>
    cases (show u = Value.ref a from rx)
    obtain ⟨mA, O, _⟩ := ins_get I.hok ea
    obtain ⟨od, J, _⟩ := O.look
    exact PySem.W.kia_one (PySem.W.kitx_own (cl.get _) cl.hd ha hn htk hm) I.kIn J e (fun z => nomatch z) h
end
end L2
namespace L2
open PySem PySem.Spec PyProof.Rows
structure Room (k : Nat) (A : Around) : Prop where
  hd : A.handled = none
  dp : A.depth + 3 * k + 5 < recursionLimit
  un : A.units + 16 * k + 200 < cLine
theorem Room.mono {j k : Nat} {A : Around} (r : Room k A) (h : j ≤ k) : Room j A := ⟨r.hd, by have := r.dp; omega, by have := r.un; omega⟩
theorem Room.deeper {k : Nat} {A : Around} (r : Room (k + 1) A) (env : Env) : Room k (A.deeper env) :=
  ⟨r.hd, by have := r.dp; show A.depth + 1 + 3 * k + 5 < _; omega, by have := r.un; show A.units + 3 + 16 * k + 200 < _; omega⟩
theorem Room.depth {k : Nat} {A : Around} (r : Room k A) : A.depth < recursionLimit := by have := r.dp; omega
theorem Room.units {k : Nat} {A : Around} (r : Room k A) : A.units + 64 < cLine := by have := r.un; omega
def tNil : TA := fun _ H Q => Q [] H
def tCons (ta : TE) (tr : TA) : TA := fun σ H Q => ta σ H fun x H1 => tr σ H1 fun xs H2 => Q (x :: xs) H2
section
variable {X : Cx} {e : Expr} {es : List Expr} {te : TE} {t : TA} {pos : Pos}
theorem pa_nil : PA X [] tNil := fun _ _ _ _ H Q I h => Calls.spliced_nil ⟨[], H, I, .nil, h⟩
theorem pa_cons (ha : PE X e te) (hr : PA X es t) (hs : starEach (e :: es) X.env = (false, eval e X.env) :: starEach es X.env := by rfl) : PA X (e :: es) (tCons te t) := by
  intro pos pins s σ H Q I h
  rw [hs]
  show wpAny _ _ (spliced ((false, eval e X.env) :: backTo pos (starEach es X.env))) _ _ s
  refine Calls.spliced_cons (thn (ha pins s σ H _ I h) fun u s1 ⟨x, H1, I1, r1, q1⟩ => ?_)
  exact thn (hr pos pins s1 σ H1 _ I1 q1) fun us s2 ⟨xs, H2, I2, r2, q2⟩ => ⟨x :: xs, H2, I2, .cons r1 r2, q2⟩
def tTup (t : TA) : TE := fun σ H Q => t σ H fun xs H1 => xs.length ≤ sizeLine ∧ ∀ p, H1 p = none → Q (.ref p) (upd H1 p (.tup xs))
def tLst (t : TA) : TE := fun σ H Q => t σ H fun xs H1 => xs.length ≤ sizeLine ∧ ∀ p, H1 p = none → Q (.ref p) (upd H1 p (.lst xs))
theorem pe_tup {x1} (h : PA X es t) : PE X (.Tuple es x1 pos) (tTup t) := by
  intro pins s σ H Q I hq
  refine wpAny_Tuple_spliced (thn (h pos pins s σ H _ I hq) fun us s1 ⟨xs, H1, I1, r, z, q⟩ => ⟨by rw [← r.length]; exact z, ?_⟩)
  have hf : H1 s1.heap.objs.size = none := I1.hok.fresh (Nat.le_refl _)
  refine ⟨.ref s1.heap.objs.size, upd H1 s1.heap.objs.size (.tup xs), I1.laid (t' := s1.toks) (fun b u e => Heap.get?_push_of_some _ e) (Nat.le_refl _) ?_, rfl, q _ hf⟩
  exact ⟨z, us, r, ⟨_, Heap.get?_push_size _ rfl, rfl, _, rfl⟩⟩
theorem pe_lst (h : PA X es t) : PE X (.List es pos) (tLst t) := by
  intro pins s σ H Q I hq
  refine wpAny_List_spliced (thn (h pos pins s σ H _ I hq) fun us s1 ⟨xs, H1, I1, r, z, q⟩ => ⟨by rw [← r.length]; exact z, ?_⟩)
  have hf : H1 s1.heap.objs.size = none := I1.hok.fresh (Nat.le_refl _)
  refine ⟨.ref s1.heap.objs.size, upd H1 s1.heap.objs.size (.lst xs), I1.laid (t' := s1.toks) (fun b u e => Heap.get?_push_of_some _ e) (Nat.le_refl _) ?_, rfl, q _ hf⟩
  exact ⟨z, us, 0, r, Heap.get?_push_size _ rfl⟩
end
abbrev Sp := List V → Hp → VK → XK → Prop
abbrev CXT := List Env → Hp → Shared → XK → Value → Shared → Prop
structure Env0 (P : Program) (w : World) (K : PySem.W.Frag) (mg : Str → Option Value) (base : Heap) (A : Around) (outer : List Env) (s : Shared) (H : Hp) : Prop where
  frames : A.frames = some outer
  mod : Mod K mg base
  bs : ∀ b o, base.get? b = some o → s.heap.get? b = some o ∧ H b = none
  bsz : base.objs.size ≤ s.heap.objs.size
  funs : s.heap.FunFrames base outer
  frf : ∀ b ∈ frs outer, H b = none
  hok : HOk P w H s.heap
  bare : AllBare s.gens
def CE (outer : List Env) (P : Program) (w : World) (H : Hp) (s : Shared) (Q : VK) (u : Value) (s' : Shared) : Prop :=
  ∃ v H', s'.os = s.os ∧ AllBare s'.gens ∧ Un (frs outer) [] H H' s.heap s'.heap ∧ HOk P w H' s'.heap ∧ RelV v u ∧ Q v H'
def CR (CX : CXT) (outer : List Env) (P : Program) (w : World) (H : Hp) (s : Shared) (Q : VK) (E : XK) (r : Result) (s' : Shared) : Prop :=
  match r with
  | .ok (.ret u) => CE outer P w H s Q u s'
  | .ok _ => False
  | .error e => CX outer H s E e s'
structure FnOk (P : Program) (w : World) (K : PySem.W.Frag) (mg : Str → Option Value) (base : Heap) (CX : CXT) (k : Nat) (f : Addr) (fd : FuncData) (ps : List Str) (sp : Sp) : Prop where
  len : ∀ vs H Q E, sp vs H Q E → vs.length = ps.length
  run : ∀ (A : Around) (outer : List Env) (s : Shared) (H : Hp) (args : Args) (us : List Value) (vs : List V) (Q : VK) (E : XK), Room k A → Env0 P w K mg base A outer s H → BindsTo s fd args (ps.zip us) → Vals vs us → sp vs H Q E →
    codeAny (model P w) A (.call (.ref f) args) (CR CX outer P w H s Q E) s
theorem FnOk.mono {P : Program} {w : World} {K : PySem.W.Frag} {mg : Str → Option Value} {base : Heap} {CX : CXT} {j k : Nat} {f : Addr} {fd : FuncData} {ps : List Str} {sp : Sp} (F : FnOk P w K mg base CX j f fd ps sp) (h : j ≤ k) :
    FnOk P w K mg base CX k f fd ps sp := ⟨F.len, fun A outer s H args us vs Q E hr => F.run A outer s H args us vs Q E (hr.mono h)⟩
section
variable {X : Cx} {pins : List (Addr × Obj)} {σ : St} {H : Hp} {s s' : Shared}
theorem Inv.env0 (I : Inv X pins σ H s) : Env0 X.prog X.w X.K X.mg X.base X.A X.stack s H :=
  ⟨I.ok.frames, I.ok.mod, I.bs, Nat.le_trans I.ok.bsz I.sz, I.stack, I.stkFree, I.hok, I.bare⟩
theorem Inv.after {Q : VK} {u : Value} (I : Inv X pins σ H s) (h : CE X.stack X.prog X.w H s Q u s') : EP X pins σ Q u s' := by
  obtain ⟨v, H', os, bare, un, hok, r, q⟩ := h
  obtain ⟨hh, g, d, t, os'⟩ := s'
  obtain rfl : os' = s.os := os
  exact ⟨v, H', I.call (h' := hh) (g' := g) (d' := d) (t' := t) (ch := []) un hok bare (fun b z => absurd z (by simp)), r, q⟩
end
def tCall (sp : Sp) (dvs : List V) (E : XK) (t : TA) : TE := fun σ H Q => t σ H fun vs H1 => sp (vs ++ dvs) H1 Q E
def tMeth (C : Addr) (m : Str) (sp : Sp) (dvs : List V) (E : XK) (ta : TE) (t : TA) : TE := fun σ H Q => ta σ H fun x H1 => ∃ a dx fs, x = .ref a ∧ H1 a = some (.ins C dx fs) ∧ fs.lookup m = none ∧
  t σ H1 fun vs H2 => sp (x :: (vs ++ dvs)) H2 Q E
def tMake (C : Addr) (sp : Sp) (dvs : List V) (E : XK) (t : TA) : TE := fun σ H Q => t σ H fun vs H1 => ∀ x dx, H1 x = none → H1 dx = none → dx ≠ x →
  sp (.ref x :: (vs ++ dvs)) (upd (upd H1 dx (.own x)) x (.ins C dx [])) (fun v H2 => v = .non ∧ Q (.ref x) H2) E
def Binds (K : PySem.W.Frag) (fd : FuncData) (ps : List Str) (ds : List Value) : Prop :=
  ∀ (s : Shared) (us : List Value), K.In s.heap → (us ++ ds).length = ps.length → BindsTo s fd ⟨us, []⟩ (ps.zip (us ++ ds))
theorem Binds.all {K : PySem.W.Frag} {fd : FuncData} {ps : List Str} (h : ∀ us : List Value, us.length = ps.length → bindArgs fd ⟨us, []⟩ = pure (ps.zip us)) : Binds K fd ps [] := fun s us _ hl => by
  rw [List.append_nil] at hl ⊢
  exact .of_eq (h us hl)
def Passes (CX : CXT) (X : Cx) (E : XK) : Prop := ∀ (pins : List (Addr × Obj)) (σ : St) (H : Hp) (s : Shared) (e : Value) (s' : Shared), Inv X pins σ H s → CX X.stack H s E e s' → X.xe e s'
section
variable {X : Cx} {CX : CXT} {k : Nat} {f C : Addr} {fd : FuncData} {ps : List Str} {sp : Sp} {dvs : List V} {ds : List Value} {E : XK} {x m : Str} {p pos apos : Pos} {e o : Expr} {es : List Expr} {ta : TE} {t : TA}
theorem run_fn {pins : List (Addr × Obj)} {σ : St} {H : Hp} {s : Shared} {Q : VK} {us : List Value} {vs : List V} (F : FnOk X.prog X.w X.K X.mg X.base CX k f fd ps sp) (hr : Room k X.A) (hb : Binds X.K fd ps ds) (hd : Vals dvs ds) (hx : Passes CX X E)
    (I : Inv X pins σ H s) (r : Vals vs us) (h : sp (vs ++ dvs) H Q E) : wpAny (model X.prog X.w) X.A (call (.ref f) us) (EP X pins σ Q) X.xe s := by
  have r2 : Vals (vs ++ dvs) (us ++ ds) := r.append hd
  have hl : (us ++ ds).length = ps.length := by rw [← r2.length]; exact F.len _ _ _ _ h
  refine wpAny_call (codeAny_mono (F.run X.A X.stack s H ⟨us, []⟩ (us ++ ds) (vs ++ dvs) Q E hr I.env0 (hb s us I.kIn hl) r2 h) fun r s' hq => ?_)
  cases r with
  | error e => exact hx pins σ H s e s' I hq
  | ok fl =>
    cases fl with
    | ret u => exact I.after hq
    | next => exact False.elim hq
    | brk => exact False.elim hq
    | cont => exact False.elim hq
theorem pe_call (F : FnOk X.prog X.w X.K X.mg X.base CX k f fd ps sp) (hr : Room k X.A) (hg : Gl X x) (hm : X.mg x = some (.ref f)) (hk : PySem.W.keepIn X.K (.ref f) = true) (hb : Binds X.K fd ps ds) (hd : Vals dvs ds) (hx : Passes CX X E)
    (ha : PA X (e :: es) t) (hdb : (x == ("__debug__" : Str)) = false := by decide) (he : starEach (e :: es) X.env = (false, eval e X.env) :: starEach es X.env := by rfl) (hpl : (backTo pos (starEach es X.env)).any (·.1) = false := by rfl) :
    PE X (.Call (.Name x p) (e :: es) [] pos) (tCall sp dvs E t) := by
  intro pins s σ H Q I h
  refine wpAny_Call_Name_kw (ld_glob I hg hm ?_ hdb)
  refine PySem.W.callWith_K (h₀ := X.base) I.ok.mod.kin hk (thn (ha pos pins s σ H _ I h) fun us s1 ⟨vs, H1, I1, r, q⟩ => ⟨I1.kIn, ?_⟩) he hpl
  exact run_fn F hr hb hd hx I1 r q
structure Mk (K : PySem.W.Frag) (C f : Addr) : Prop where
  makes : PySem.W.makesIn K C = true
  init : PySem.W.findIn K (.ref C) "__init__" = some (some (.ref f))
  fn : PySem.W.isFn K (.ref f) = true
  kp : PySem.W.keepIn K (.ref C) = true
end
def PK (X : Cx) (kws : List Keyword) (t : TA) : Prop :=
  ∀ (pos : Pos) (pins : List (Addr × Obj)) (s : Shared) (σ : St) (H : Hp) (Q : List V → Hp → Prop), Inv X pins σ H s → t σ H Q → wpAny (model X.prog X.w) X.A (evalAll ((backToKw pos (keywordEach kws X.env)).map (·.2))) (AP X pins σ Q) X.xe s
section
variable {X : Cx} {CX : CXT} {k : Nat} {f C : Addr} {fd : FuncData} {ps ks : List Str} {sp : Sp} {E : XK} {x m : Str} {p pos apos kpos : Pos} {e o : Expr} {es : List Expr} {kws : List Keyword} {te ta : TE} {t tk : TA} {nm : Option Str}
structure KBinds (K : PySem.W.Frag) (fd : FuncData) (ps ks : List Str) (g : List Value → List Value → List Value) (gV : List V → List V → List V) : Prop where
  to : ∀ (s : Shared) (us ws : List Value), K.In s.heap → (g us ws).length = ps.length → BindsTo s fd ⟨us, ks.zip ws⟩ (ps.zip (g us ws))
  rel : ∀ {vs : List V} {us : List Value} {zs : List V} {ws : List Value}, Vals vs us → Vals zs ws → Vals (gV vs zs) (g us ws)
def tCallK (sp : Sp) (gV : List V → List V → List V) (E : XK) (t tk : TA) : TE := fun σ H Q => t σ H fun vs H1 => tk σ H1 fun zs H2 => sp (gV vs zs) H2 Q E
variable {g : List Value → List Value → List Value} {gV : List V → List V → List V}
end
structure FnScope (N P : List Str) (sc : Scope) : Prop where
  kind : sc.kind = .function
  co : sc.isCoroutine = false
  gen : sc.isGenerator = false
  nd : N.Nodup
  pre : N.take P.length = P
  par : ∀ x ∈ P, sc.names.lookup x = some .local ∨ sc.names.lookup x = some .cell
  nofree : ∀ y ∈ sc.names, y.2 ≠ .free
theorem bindL_out {kindOf : Str → Option NameKind} {x : Str} : ∀ {binds : List (Str × Value)} {m : Str → Option Value}, (∀ v, (x, v) ∉ binds) → bindL kindOf binds m x = m x
  | [], _, _ => rfl
  | (n, v) :: r, m, h => by
    unfold bindL
    rw [bindL_out fun w hw => h w (List.mem_cons_of_mem _ hw)]
    split
    · have : x ≠ n := by rintro rfl; exact h v List.mem_cons_self
      simp [this]
    · rfl
theorem bindC_out {kindOf : Str → Option NameKind} {x : Str} : ∀ {binds : List (Str × Value)} {m : Str → Option Value}, (∀ v, (x, v) ∉ binds) → bindC kindOf binds m x = m x
  | [], _, _ => rfl
  | (n, v) :: r, m, h => by
    unfold bindC
    rw [bindC_out fun w hw => h w (List.mem_cons_of_mem _ hw)]
    split
    · rfl
    · have : x ≠ n := by rintro rfl; exact h v List.mem_cons_self
      simp [this]
theorem bindL_get {kindOf : Str → Option NameKind} {x : Str} {v : Value} : ∀ {P : List Str} {vs : List Value} {i : Nat} {m : Str → Option Value}, P.Nodup → P[i]? = some x → vs[i]? = some v → kindOf x = some .local →
    bindL kindOf (P.zip vs) m x = some v
  | [], _, _, _, _, h, _, _ => by simp at h
  | _ :: _, [], _, _, _, _, h, _ => by simp at h
  | p :: P, w :: vs, 0, m, nd, h1, h2, hk => by
    simp at h1 h2; subst h1; subst h2
    show bindL kindOf ((p, w) :: P.zip vs) m p = _
    unfold bindL
    rw [bindL_out fun v hv => (List.nodup_cons.mp nd).1 (List.of_mem_zip hv).1, if_pos hk]
    simp
  | p :: P, w :: vs, i + 1, m, nd, h1, h2, hk => by
    show bindL kindOf ((p, w) :: P.zip vs) m x = _
    unfold bindL
    exact bindL_get (i := i) (List.nodup_cons.mp nd).2 (by simpa using h1) (by simpa using h2) hk
theorem bindC_get {kindOf : Str → Option NameKind} {x : Str} {v : Value} : ∀ {P : List Str} {vs : List Value} {i : Nat} {m : Str → Option Value}, P.Nodup → P[i]? = some x → vs[i]? = some v → kindOf x ≠ some .local →
    bindC kindOf (P.zip vs) m x = some v
  | [], _, _, _, _, h, _, _ => by simp at h
  | _ :: _, [], _, _, _, _, h, _ => by simp at h
  | p :: P, w :: vs, 0, m, nd, h1, h2, hk => by
    simp at h1 h2; subst h1; subst h2
    show bindC kindOf ((p, w) :: P.zip vs) m p = _
    unfold bindC
    rw [bindC_out fun v hv => (List.nodup_cons.mp nd).1 (List.of_mem_zip hv).1, if_neg hk]
    simp
  | p :: P, w :: vs, i + 1, m, nd, h1, h2, hk => by
    show bindC kindOf ((p, w) :: P.zip vs) m x = _
    unfold bindC
    exact bindC_get (i := i) (List.nodup_cons.mp nd).2 (by simpa using h1) (by simpa using h2) hk
def start (N : List Str) (vs : List V) : St := vs.map some ++ List.replicate (N.length - vs.length) none
def cxOf (CX : CXT) (P : Program) (w : World) (K : PySem.W.Frag) (mg : Str → Option Value) (base : Heap) (N : List Str) (qual : Str) (scope : Scope) (f : Addr) (cd : Value) (A : Around) (outer : List Env) (s : Shared) (H : Hp) (E : XK) : Cx where
  prog := P
  w := w
  K := K
  mg := mg
  base := base
  A := A.deeper (envOfC qual scope s.heap.objs.size f cd)
  N := N
  s₀ := s
  H₀ := H
  env := envOfC qual scope s.heap.objs.size f cd
  outer := outer
  stack := envOfC qual scope s.heap.objs.size f cd :: outer
  ex := []
  calm := A.handled.isNone
  fn := fun _ => true
  pn := []
  xe := fun e s' => wpAny (model P w) (A.deeper (envOfC qual scope s.heap.objs.size f cd)) (leaving (envOfC qual scope s.heap.objs.size f cd) e) (fun _ s'' => CX outer H s E e s'') (fun e' s'' => CX outer H s E e' s'') s'
theorem cell_has {sc : Scope} {n : Nat} {x : Str} (h : sc.names.lookup x = some .cell) : ∃ c, (cellsFrom n sc.names []).lookup x = some c := by
  have q := PySem.W.cellsFrom_some sc.names n [] (.inl h)
  exact Option.isSome_iff_exists.mp q
theorem inv_start {CX : CXT} {P : Program} {w : World} {K : PySem.W.Frag} {mg : Str → Option Value} {base : Heap} {N ps : List Str} {qual : Str} {scope : Scope} {f : Addr} {cd : Value} {A : Around} {outer : List Env} {s s1 : Shared} {H : Hp} {E : XK} {us : List Value} {vs : List V}
    (S : FnScope N ps scope) (e0 : Env0 P w K mg base A outer s H) (hl : vs.length = ps.length) (r : Vals vs us)
    (x : InCallC s s.heap.objs.size (bindL (envOfC qual scope s.heap.objs.size f cd).kindOf (ps.zip us) fun _ => none) (cellsFrom (s.heap.objs.size + 1) scope.names []) (bindC (envOfC qual scope s.heap.objs.size f cd).kindOf (ps.zip us) fun _ => none) s1) :
    Inv (cxOf CX P w K mg base N qual scope f cd A outer s H E) [] (start N vs) H s1 := by
  have hpl : ps.length ≤ N.length := by have := congrArg List.length S.pre; rw [List.length_take] at this; omega
  obtain ⟨h1, tk, rfl, hk⟩ := x.done
  have noA : ∀ b : Addr, b ∉ (cxOf CX P w K mg base N qual scope f cd A outer s H E).ex := fun b z => absurd (show b ∈ ([] : List Addr) from z) (by simp)
  refine ⟨⟨e0.mod, S.kind, rfl, rfl, Nat.le_refl _, fun y z c h1 h2 => ?_, fun y hy => ?_, fun y c _ h => ?_, fun h => Option.isNone_iff_eq_none.mp h, Around.frames_deeper e0.frames, .inr ⟨rfl, rfl⟩, fun b z => absurd z (noA b), e0.bs, e0.bsz, fun b _ _ => noA b, fun b z => absurd z (noA b), e0.funs, e0.frf⟩,
    rfl, e0.bare, Un.kept hk, ⟨_, x.toInCall.ns, fun i y v h1 h2 h3 => ?_⟩, fun y c h => ⟨_, x.cell y c h⟩, e0.hok.fresh (Nat.le_refl _), fun y c h => ?_, fun p hp => absurd (show p ∈ ([] : List (Addr × Obj)) from hp) (by simp), e0.hok.kept hk, ?_⟩
  · exact name_of_addr x.apart (PySem.mem_of_lookup h1) (PySem.mem_of_lookup h2)
  · have hy : scope.names.lookup y = some .cell ∨ scope.names.lookup y = some .free := hy
    rcases hy with hy | hy
    · exact cell_has hy
    · exact absurd rfl (S.nofree _ (PySem.mem_of_lookup hy))
  · exact Nat.le_of_lt (x.above y c (PySem.mem_of_lookup h))
  · have hi : i < vs.length := by
      unfold start at h2
      by_cases hi : i < vs.length
      · exact hi
      · rw [List.getElem?_append_right (by simpa using hi)] at h2
        rw [List.getElem?_replicate] at h2
        split at h2 <;> cases h2
    have ha : vs[i]? = some v := by
      unfold start at h2
      rw [List.getElem?_append_left (by simpa using hi), List.getElem?_map] at h2
      cases e : vs[i]? with
      | none => rw [e] at h2; cases h2
      | some a => rw [e] at h2; cases h2; rfl
    obtain ⟨u, hu, rv⟩ := r.get ha
    have hp : ps[i]? = some y := by
      rw [← S.pre, List.getElem?_take_of_lt (by omega)]; exact h1
    have ndP : ps.Nodup := by rw [← S.pre]; exact S.nd.sublist (List.take_sublist _ _)
    refine ⟨u, rv, ?_⟩
    rcases S.par y (List.mem_of_getElem? hp) with k | k
    · exact .inl ⟨k, bindL_get ndP hp hu k⟩
    · obtain ⟨c, e⟩ := cell_has (n := s.heap.objs.size + 1) k
      refine .inr ⟨.inl k, c, e, ?_⟩
      have q := x.cell y c e
      rw [bindC_get ndP hp hu (by show scope.names.lookup y ≠ _; rw [k]; decide)] at q
      exact q
  · exact e0.hok.fresh (Nat.le_of_lt (x.above y c (PySem.mem_of_lookup h)))
  · unfold start
    show _ = N.length
    rw [List.length_append, List.length_map, List.length_replicate]
    omega
theorem fn_of {CX : CXT} {P : Program} {w : World} {K : PySem.W.Frag} {mg : Str → Option Value} {base : Heap} {k : Nat} {f : Addr} {name qual : Str} {params : Arguments} {body : List Stmt} {scope : Scope} {dV kV doc pm cdv ct oc : Value} {an od : Option Addr}
    {osl : Array (Option Value)} {N ps : List Str} {sp : Sp} (lk : K.lookup f = some ⟨oc, od, .func (PySem.W.fnOf name qual params body scope dV kV doc pm an cdv ct), osl⟩) (hcd : PySem.W.codeIn K cdv qual = true) (S : FnScope N ps scope)
    (len : ∀ vs H Q E, sp vs H Q E → vs.length = ps.length)
    (hbody : ∀ (A : Around) (outer : List Env) (s : Shared) (H : Hp) (vs : List V) (Q : VK) (E : XK), Room k (A.deeper (envOfC qual scope s.heap.objs.size f cdv)) → sp vs H Q E →
      ∃ t, PSs (cxOf CX P w K mg base N qual scope f cdv A outer s H E) body t ∧ t { nx := fun _ H' => Q .non H', rt := Q } (start N vs) H) :
    FnOk P w K mg base CX (k + 1) f (PySem.W.fnOf name qual params body scope dV kV doc pm an cdv ct) ps sp := by
  refine ⟨len, fun A outer s H args us vs Q E hr e0 hb r hsp => ?_⟩
  have hl := len _ _ _ _ hsp
  have KX : K.In s.heap := e0.mod.kin.keeps fun b o e => (e0.bs b o e).1
  have lim : s.heap.NoLimit := e0.mod.nolimit.keeps fun b o e => (e0.bs b o e).1
  have hkind : ∀ y ∈ ps.zip us, scope.names.lookup y.1 = some .local ∨ (scope.names.lookup y.1 = some .cell ∧ ((cellsFrom (s.heap.objs.size + 1) scope.names []).lookup y.1).isSome = true) := fun ⟨n, v⟩ hy => by
    rcases S.par n (List.of_mem_zip hy).1 with q | q
    · exact .inl q
    · exact .inr ⟨q, PySem.W.cellsFrom_some _ _ _ (.inl q)⟩
  refine codeAny_call_function hr.depth (KX _ _ lk) rfl S.co S.gen rfl (PySem.W.codeRec_of KX hcd) (hb _ _ _ _ ?_)
  refine wpAny_newFunctionEnv_cells S.kind hkind fun env he s1 x => ?_
  subst he
  refine ⟨lim.keeps x.toInCall.keep, codeAny_func ?_⟩
  obtain ⟨t, ht, hq⟩ := hbody A outer s H vs Q E (hr.deeper _) hsp
  have I : Inv (cxOf CX P w K mg base N qual scope f cdv A outer s H E) [] (start N vs) H s1 := inv_start S e0 hl r x
  refine wpAny_mono (ht [] s1 (start N vs) H _ I hq) (fun fl s' hs => ?_) fun e s' hs => hs
  have fin : ∀ {σ' : St} {H' : Hp} {v : V} {u : Value}, Inv (cxOf CX P w K mg base N qual scope f cdv A outer s H E) [] σ' H' s' → RelV v u → Q v H' → CE outer P w H s Q u s' :=
    fun {σ' H' v u} J rv q => ⟨v, H', J.os, J.bare, J.base, J.hok, rv, q⟩
  cases fl with
  | ret u =>
    obtain ⟨v, σ', H', J, rv, q⟩ := hs
    exact fin J rv q
  | next =>
    obtain ⟨σ', H', J, q⟩ := hs
    exact fin (v := V.non) (u := Value.none) J rfl q
  | brk =>
    obtain ⟨_, _, _, q⟩ := hs
    exact False.elim q
  | cont =>
    obtain ⟨_, _, _, q⟩ := hs
    exact False.elim q
end L2
namespace L2
open PySem PySem.Spec PyProof.Rows
section
variable {X : Cx} {x : Str} {p pos : Pos} {e : Expr} {es : List Expr} {t : TA} {id T : String} {r : List V → Hp → VK → Prop}
def tCB (r : List V → Hp → VK → Prop) (t : TA) : TE := fun σ H Q => t σ H fun vs H1 => r vs H1 Q
theorem pe_callB (hc : CallR X (.builtin id) r) (hg : Gl X x) (hm : X.mg x = none) (hv : bootBuiltins x = some (.builtin id)) (ha : PA X (e :: es) t) (hn : x ≠ "__name__" := by decide) (hdb : (x == ("__debug__" : Str)) = false := by decide)
    (he : starEach (e :: es) X.env = (false, eval e X.env) :: starEach es X.env := by rfl) (hpl : (backTo pos (starEach es X.env)).any (·.1) = false := by rfl) : PE X (.Call (.Name x p) (e :: es) [] pos) (tCB r t) := by
  intro pins s σ H Q I h
  refine wpAny_Call_Name_kw (ld_blt I hg hm hv ?_ hn hdb)
  exact PyProof.Rows.callWith_builtin1 (thn (ha pos pins s σ H _ I h) fun us s1 ⟨vs, H1, I1, r1, q1⟩ => hc pins s1 σ H1 vs us Q I1 r1 q1) he hpl
theorem pe_callTy (hc : CallR X (.type T) r) (hg : Gl X x) (hm : X.mg x = none) (hv : bootBuiltins x = some (.type T)) (ha : PA X (e :: es) t) (hn : x ≠ "__name__" := by decide) (hdb : (x == ("__debug__" : Str)) = false := by decide)
    (he : starEach (e :: es) X.env = (false, eval e X.env) :: starEach es X.env := by rfl) (hpl : (backTo pos (starEach es X.env)).any (·.1) = false := by rfl) : PE X (.Call (.Name x p) (e :: es) [] pos) (tCB r t) := by
  intro pins s σ H Q I h
  refine wpAny_Call_Name_kw (ld_blt I hg hm hv ?_ hn hdb)
  exact PyProof.Rows.callWith_type1 (thn (ha pos pins s σ H _ I h) fun us s1 ⟨vs, H1, I1, r1, q1⟩ => hc pins s1 σ H1 vs us Q I1 r1 q1) he hpl
end
end L2
namespace HT
open PySem PyProof.Rows
def lexLt : List Int → List Int → Bool
  | [], [] => false
  | [], _ :: _ => true
  | _ :: _, [] => false
  | x :: xs, y :: ys => if x = y then lexLt xs ys else decide (x < y)
section
open PySem.SeqAt
open PySem.AutoSeq1 (wpAny_loadPart')
open PySem.MeetsSeq PySem.MeetsSeq2 PySem.MeetsSeq3
end
section
variable {prog : Program} {w : World} {A : Around} {E : Value → Shared → Prop} {s : Shared}
def sIx (n d : Nat) : Option Int → Nat
  | none => d
  | some v => if v < 0 then (v + (n : Int)).toNat else min v.toNat n
theorem sIx_none (n d : Nat) : sIx n d none = d := rfl
theorem sIx_nat (n d k : Nat) : sIx n d (some (k : Int)) = min k n := by
  show (if (k : Int) < 0 then ((k : Int) + (n : Int)).toNat else min (k : Int).toNat n) = min k n
  rw [if_neg (by omega), Int.toNat_natCast]
theorem sIx_le (n d : Nat) (hd : d ≤ n) (o : Option Int) : sIx n d o ≤ n := by
  cases o with
  | none => exact hd
  | some v =>
    show (if v < 0 then (v + (n : Int)).toNat else min v.toNat n) ≤ n
    by_cases hv : v < 0
    · rw [if_pos hv]; omega
    · rw [if_neg hv]; exact Nat.min_le_right _ _
end
end HT
namespace L2
open PySem PySem.Spec PyProof.Rows
abbrev TO := St → Hp → (Option Int → Hp → Prop) → Prop
def PO (X : Cx) (e : Option Expr) (t : TO) : Prop :=
  ∀ (pins : List (Addr × Obj)) (s : Shared) (σ : St) (H : Hp) (Q : Option Int → Hp → Prop), Inv X pins σ H s → t σ H Q →
    wpAny (model X.prog X.w) X.A (evalPart e X.env) (fun u s' => ∃ o H', Inv X pins σ H' s' ∧ IsPart u o ∧ Q o H') X.xe s
def tNoPart : TO := fun _ H Q => Q none H
def tPart (t : TE) : TO := fun σ H Q => t σ H fun x H1 => ∃ i, x = .int i ∧ Q (some i) H1
section
variable {X : Cx} {e : Expr} {te : TE} {lo hi : Option Expr} {tl th : TO} {pos p2 : Pos}
theorem po_none : PO X none tNoPart := by
  intro pins s σ H Q I h
  rw [evalPart_none]
  exact wpAny_pure ⟨none, H, I, .none, h⟩
theorem po_some (h : PE X e te) : PO X (some e) (tPart te) := by
  intro pins s σ H Q I hw
  rw [evalPart_some]
  refine thn (h pins s σ H _ I hw) fun u s1 ⟨x, H1, I1, r1, q1⟩ => ?_
  obtain ⟨i, rfl, q⟩ := q1
  obtain ⟨t, rfl⟩ := r1
  exact ⟨some i, H1, I1, .int i t, q⟩
def SlR (X : Cx) (r : V → Option Int → Option Int → Hp → VK → Prop) : Prop :=
  ∀ (pins : List (Addr × Obj)) (s : Shared) (σ : St) (H : Hp) (x : V) (v vl vu : Value) (lo hi : Option Int) (sl : Addr) (Q : VK), Inv X pins σ H s → RelV x v → s.heap.IsSliceOf sl vl vu .none → IsPart vl lo → IsPart vu hi → r x lo hi H Q →
    ∃ T id, typeLookup (.type T) "__getitem__" = pure (some (.builtin id)) ∧ s.TypeIs v T ∧ wpAny (model X.prog X.w) X.A (getItem v (.ref sl)) (EP X pins σ Q) X.xe s
def tSl (r : V → Option Int → Option Int → Hp → VK → Prop) (te : TE) (tl th : TO) : TE := fun σ H Q => te σ H fun x H1 => tl σ H1 fun l H2 => th σ H2 fun u H3 => r x l u H3 Q
theorem pe_slice {r : V → Option Int → Option Int → Hp → VK → Prop} (hr : SlR X r) (he : PE X e te) (hl : PO X lo tl) (hu : PO X hi th) : PE X (.Subscript e (.Slice lo hi none p2) pos) (tSl r te tl th) := by
  intro pins s σ H Q I h
  refine Subscript_ (thn (he pins s σ H _ I h) fun v s1 ⟨x, H1, I1, r1, q1⟩ => ?_)
  refine wpAny_Slice (thn (hl pins s1 σ H1 _ I1 q1) fun vl s2 ⟨l, H2, I2, pl, q2⟩ => thn (hu pins s2 σ H2 _ I2 q2) fun vu s3 ⟨u, H3, I3, pu, q3⟩ => ?_)
  rw [evalPart_none]
  refine wpAny_pure ?_
  have I4 : Inv X pins σ H3 { s3 with heap := s3.heap.push { cls := .type "slice", data := .fields #[vl, vu, .none] } } := I3.kept (t' := s3.toks) fun b ob q => Heap.get?_push_of_some _ q
  obtain ⟨T, id, hT, ht, hg⟩ := hr pins { s3 with heap := s3.heap.push { cls := .type "slice", data := .fields #[vl, vu, .none] } } σ H3 x v vl vu l u s3.heap.objs.size Q I4 r1 (Heap.IsSliceOf.new ..) pl pu q3
  show wpAny (model X.prog X.w) X.A (subscriptTail e (.Slice lo hi none p2) v (.ref s3.heap.objs.size)) (EP X pins σ Q) X.xe { s3 with heap := s3.heap.push { cls := .type "slice", data := .fields #[vl, vu, .none] } }
  exact tail_any (ops := [.ref s3.heap.objs.size, v]) ht hT hg (by with_unfolding_all rfl)
def cutV (xs : List V) (lo hi : Option Int) : List V := (xs.drop (HT.sIx xs.length 0 lo)).take (HT.sIx xs.length xs.length hi - HT.sIx xs.length 0 lo)
theorem cutV_length (xs : List V) (lo hi : Option Int) : (cutV xs lo hi).length ≤ xs.length := by
  unfold cutV
  rw [List.length_take, List.length_drop]
  omega
def rSlT (K : PySem.W.Frag) : V → Option Int → Option Int → Hp → VK → Prop := fun x lo hi H Q => ∃ a xs, x = .ref a ∧ SqT K H a xs ∧
  ¬ (HT.sIx xs.length 0 lo = 0 ∧ HT.sIx xs.length xs.length hi = xs.length) ∧ ∀ p, H p = none → Q (.ref p) (upd H p (.tup (cutV xs lo hi)))
def rLtT (K : PySem.W.Frag) : R2 := fun x y H Q => ∃ a b ns ms, x = .ref a ∧ y = .ref b ∧ SqT K H a (ns.map V.int) ∧ SqT K H b (ms.map V.int) ∧ Q (.bl (HT.lexLt ns ms)) H
def rCatT (K : PySem.W.Frag) : R2 := fun x y H Q => ∃ a b xs ys, x = .ref a ∧ y = .ref b ∧ SqT K H a xs ∧ SqT K H b ys ∧ xs ≠ [] ∧ xs.length + ys.length ≤ sizeLine ∧
  (ys = [] → Q (.ref a) H) ∧ (ys ≠ [] → ∀ p, H p = none → Q (.ref p) (upd H p (.tup (xs ++ ys))))
end
end L2
namespace L2
open PySem PySem.Spec PyProof.Rows
def ixN (n : Nat) (i : Int) : Option Nat := if 0 ≤ i then (if i < n then some i.toNat else none) else if -(n : Int) ≤ i then some (i + n).toNat else none
def atI {α : Type} (xs : List α) (i : Int) : Option α := (ixN xs.length i).bind fun j => xs[j]?
theorem ixN_seq {n : Nat} {i : Int} {j : Nat} (h : ixN n i = some j) : seqIndex? i n = some j ∧ j < n ∧ -(n : Int) ≤ i ∧ i < n := by
  unfold ixN at h
  by_cases h0 : 0 ≤ i
  · rw [if_pos h0] at h
    by_cases h1 : i < n
    · rw [if_pos h1] at h
      have e : i.toNat = j := Option.some.inj h
      exact ⟨by rw [seqIndex_of h0 h1, e], by omega, by omega, h1⟩
    · rw [if_neg h1] at h; cases h
  · rw [if_neg h0] at h
    by_cases h1 : -(n : Int) ≤ i
    · rw [if_pos h1] at h
      have e : (i + n).toNat = j := Option.some.inj h
      exact ⟨by rw [seqIndex_neg (by omega) h1, e], by omega, h1, by omega⟩
    · rw [if_neg h1] at h; cases h
theorem atI_get {α : Type} {xs : List α} {i : Int} {v : α} (h : atI xs i = some v) : ∃ j, seqIndex? i xs.length = some j ∧ xs[j]? = some v ∧ j < xs.length ∧ -(xs.length : Int) ≤ i ∧ i < xs.length := by
  unfold atI at h
  cases e : ixN xs.length i with
  | none => rw [e] at h; cases h
  | some j =>
    rw [e] at h
    obtain ⟨h1, h2, h3, h4⟩ := ixN_seq e
    exact ⟨j, h1, h, h2, h3, h4⟩
theorem atI_nat {α : Type} {xs : List α} {j : Nat} {v : α} (h : xs[j]? = some v) : atI xs (j : Int) = some v := by
  have hj : j < xs.length := (List.getElem?_eq_some_iff.mp h).1
  have e : ixN xs.length (j : Int) = some j := by
    unfold ixN
    rw [if_pos (by omega), if_pos (by omega)]; simp
  unfold atI; rw [e]; exact h
def PlainIx (b : Expr) : Prop := ∀ o i, subscripted b false o i = operate [o, i] (getItem o i)
def IxR (X : Cx) (r : R2) : Prop :=
  ∀ (value slice : Expr) (pins : List (Addr × Obj)) (s : Shared) (σ : St) (H : Hp) (x y : V) (v u : Value) (Q : VK), Inv X pins σ H s → RelV x v → RelV y u → r x y H Q →
    subscripted slice false v u = operate [v, u] (getItem v u) → wpAny (model X.prog X.w) X.A (subscriptTail value slice v u) (EP X pins σ Q) X.xe s
def MtR (X : Cx) (id : String) (r : V → List V → Hp → VK → Prop) : Prop :=
  ∀ (pins : List (Addr × Obj)) (s : Shared) (σ : St) (H : Hp) (x : V) (xs : List V) (v : Value) (us : List Value) (Q : VK), Inv X pins σ H s → RelV x v → Vals xs us → r x xs H Q →
    wpAny (model X.prog X.w) X.A (call (.builtin id) (v :: us)) (EP X pins σ Q) X.xe s
section
variable {X : Cx} {a b : Expr} {ta tb : TE} {pos : Pos}
theorem pe_ix {r : R2} (hr : IxR X r) (ha : PE X a ta) (hb : PE X b tb) (hs : PlainIx b) : PE X (.Subscript a b pos) (tOp r ta tb) := by
  intro pins s σ H Q I h
  exact Subscript_ (binT ha hb I h fun v u s2 x y H2 I2 rx ry q => hr a b pins s2 σ H2 x y v u Q I2 rx ry q (hs _ _))
def rIxL (K : PySem.W.Frag) : R2 := fun x y H Q => ∃ p xs i v, x = .ref p ∧ y = .int i ∧ SqL K H p xs ∧ atI xs i = some v ∧ Q v H
def rIxT (K : PySem.W.Frag) : R2 := fun x y H Q => ∃ p xs i v, x = .ref p ∧ y = .int i ∧ SqT K H p xs ∧ atI xs i = some v ∧ Q v H
def rIxS : R2 := fun x y H Q => ∃ z i c, x = .str z ∧ y = .int i ∧ z.length ≤ sizeLine ∧ atI z.cps.toList i = some c ∧ Q (.str ⟨#[c]⟩) H
theorem ix_list : IxR X (rIxL X.K) := by
  intro value slice pins s σ H x y v u Q I rx ry h hs
  obtain ⟨p, xs, i, z, rfl, rfl, hq, he, q⟩ := h
  cases rx
  obtain ⟨t, rfl⟩ := ry
  obtain ⟨its, r, pl, hz⟩ := I.list hq
  obtain ⟨j, h1, h2, h3, h4, h5⟩ := atI_get he
  obtain ⟨w, ew, rw'⟩ := r.get h2
  have hl := r.length
  have hn := line63
  have fin : EP X pins σ Q w s := ⟨z, H, I, rw', q⟩
  by_cases h0 : 0 ≤ i
  · have hj : i.toNat = j := by
      rw [seqIndex_of h0 h5] at h1
      exact Option.some.inj h1
    exact item_listR pl.isList h0 (by omega) (by rw [hj]; simpa using ew) fin hs
  · have hj : (i + (its.toArray.size : Int)).toNat = j := by
      rw [seqIndex_neg (by omega) h4] at h1
      rw [List.size_toArray, ← hl]
      exact Option.some.inj h1
    exact subscriptTail_builtinR (x := w) pl.isList.typeIs slot_list_getitem.lookup
      (wpAny_getItem_list_neg (Q := fun r s' => r = w ∧ EP X pins σ Q r s') pl.isList (by omega) (by rw [List.size_toArray] <;> omega) (by omega) (by rw [hj]; simpa using ew) ⟨rfl, fin⟩) hs
theorem ix_tup : IxR X (rIxT X.K) := by
  intro value slice pins s σ H x y v u Q I rx ry h hs
  obtain ⟨p, xs, i, z, rfl, rfl, hq, he, q⟩ := h
  cases rx
  obtain ⟨t, rfl⟩ := ry
  obtain ⟨its, r, pl, hz⟩ := I.tuple hq
  obtain ⟨j, h1, h2, h3, h4, h5⟩ := atI_get he
  obtain ⟨w, ew, rw'⟩ := r.get h2
  have hl := r.length
  have hn := line63
  have fin : EP X pins σ Q w s := ⟨z, H, I, rw', q⟩
  exact subscriptTail_builtinR (x := w) pl.typeIs slot_tuple_getitem.lookup
    (getItem_tuple (j := j) (Q := fun r s' => r = w ∧ EP X pins σ Q r s') pl (by omega) (by omega) (by rw [List.size_toArray, ← hl]; exact h1) (by simpa using ew) ⟨rfl, fin⟩) hs
theorem ix_str : IxR X rIxS := by
  intro value slice pins s σ H x y v u Q I rx ry h hs
  obtain ⟨z, i, c, rfl, rfl, hz, he, q⟩ := h
  obtain ⟨t, rfl⟩ := rx
  obtain ⟨t', rfl⟩ := ry
  obtain ⟨j, h1, h2, h3, h4, h5⟩ := atI_get he
  have hl : z.cps.toList.length = z.length := by simp [Str.length]
  rw [hl] at h1 h4 h5
  have hn := line63
  exact tail_any (typeIs_str s z t) slot_str_getitem.lookup (getItem_str (c := c) (by
    have e1 : decide (i < -(2 ^ 63 : Int)) = false := decide_eq_false (by omega)
    have e2 : decide (i ≥ 2 ^ 63) = false := decide_eq_false (by omega)
    rw [e1, e2, Bool.or_false]) (by rw [h1]; simpa using h2) ⟨.str ⟨#[c]⟩, H, I.tok _, ⟨_, rfl⟩, q⟩) hs
def rIx (K : PySem.W.Frag) : R2 := fun x y H Q => rIxL K x y H Q ∨ rIxT K x y H Q ∨ rIxS x y H Q
theorem mapSeq_set (its : List Value) (n j : Nat) (u : Value) : Obj.mapSeq (·.setIfInBounds j u) { cls := .type "list", data := .seq its.toArray n } = { cls := .type "list", data := .seq (its.set j u).toArray n } := by
  simp [Obj.mapSeq]
theorem Inv.lst {pins : List (Addr × Obj)} {σ : St} {H : Hp} {s : Shared} {p : Addr} {xs : List V} (I : Inv X pins σ H s) (h : H p = some (.lst xs)) :
    ∃ (its : List Value) (n : Nat), Vals xs its ∧ s.heap.get? p = some { cls := .type "list", data := .seq its.toArray n } ∧ xs.length ≤ sizeLine := by
  obtain ⟨z, its, n, r, e⟩ := I.hok p _ h
  exact ⟨its, n, r, e, z⟩
theorem Inv.lstUpd {pins : List (Addr × Obj)} {σ : St} {H : Hp} {s : Shared} {p : Addr} {xs ys : List V} {its its' : List Value} {n n' : Nat} {f : Obj → Obj} (I : Inv X pins σ H s) (h : H p = some (.lst xs))
    (ho : s.heap.get? p = some { cls := .type "list", data := .seq its.toArray n }) (hf : f { cls := .type "list", data := .seq its.toArray n } = { cls := .type "list", data := .seq its'.toArray n' }) (r : Vals ys its') (hz : ys.length ≤ sizeLine) (t : Nat) :
    Inv X pins σ (upd H p (.lst ys)) { s with heap := s.heap.update p f, toks := t } := by
  have e : (s.heap.update p f).get? p = some { cls := .type "list", data := .seq its'.toArray n' } := by
    rw [Heap.get?_update_self f ho (by rw [hf] <;> rfl), hf]
  refine I.write (x := p) (e := p) (by rw [h]; trivial) (.inl rfl) (fun b u hb q => (Heap.get?_update_other _ _ (Ne.symm hb)).trans q) ⟨_, e⟩ ?_
  exact ⟨hz, its', n', r, e⟩
def rSetL : V → V → V → Hp → (Hp → Prop) → Prop := fun o i v H Q => ∃ p xs k j, o = .ref p ∧ i = .int k ∧ H p = some (.lst xs) ∧ ixN xs.length k = some j ∧ Q (upd H p (.lst (xs.set j v)))
theorem set_list : PSet X rSetL := by
  intro pins s σ H o i v ov iv u Q I ro ri rv h
  obtain ⟨p, xs, k, j, rfl, rfl, hp, hj, q⟩ := h
  cases ro
  obtain ⟨t, rfl⟩ := ri
  obtain ⟨its, n, r, ho, hz⟩ := I.lst hp
  obtain ⟨h1, h2, h3, h4⟩ := ixN_seq hj
  have hl := r.length
  have hn := line63
  have I' : Inv X pins σ (upd H p (.lst (xs.set j v))) { s with heap := s.heap.update p (Obj.mapSeq (·.setIfInBounds j u)) } :=
    I.lstUpd hp ho (mapSeq_set its n j u) (r.set rv j) (by rw [List.length_set]; exact hz) s.toks
  by_cases h0 : 0 ≤ k
  · have hk : k.toNat = j := by
      rw [seqIndex_of h0 h4] at h1
      exact Option.some.inj h1
    exact PySem.W.ki_setAt ho h0 (by omega) (by rw [List.size_toArray, ← hl]; exact h4) (by rw [hk]; exact ⟨_, I', q⟩)
  · have hk : (k + (its.toArray.size : Int)).toNat = j := by
      rw [seqIndex_neg (by omega) h3] at h1
      rw [List.size_toArray, ← hl]
      exact Option.some.inj h1
    exact PySem.W.ki_setBack ho (by omega) (by rw [List.size_toArray, ← hl]; exact h3) (by omega) (by rw [hk]; exact ⟨_, I', q⟩)
theorem slice_bounds (lo hi : Option Int) (n : Nat) : (sliceBounds lo hi none n).1 = ((HT.sIx n 0 lo : Nat) : Int) ∧ (sliceBounds lo hi none n).2.1 = ((HT.sIx n n hi : Nat) : Int) ∧ (sliceBounds lo hi none n).2.2 = 1 := by
  refine ⟨?_, ?_, rfl⟩
  · cases lo with
    | none => simp [sliceBounds, HT.sIx]
    | some i =>
      simp only [sliceBounds, HT.sIx, Option.getD_none, show (1 : Int) > 0 by decide, if_true]
      by_cases h : i < 0
      · simp only [h, if_true] <;> omega
      · simp only [h, if_false] <;> omega
  · cases hi with
    | none => simp [sliceBounds, HT.sIx]
    | some i =>
      simp only [sliceBounds, HT.sIx, Option.getD_none, show (1 : Int) > 0 by decide, if_true]
      by_cases h : i < 0
      · simp only [h, if_true] <;> omega
      · simp only [h, if_false] <;> omega
theorem slicePick_cut (its : List Value) (lo hi : Option Int) : slicePick its.toArray lo hi none = ((its.drop (HT.sIx its.length 0 lo)).take (HT.sIx its.length its.length hi - HT.sIx its.length 0 lo)).toArray := by
  obtain ⟨h1, h2, h3⟩ := slice_bounds lo hi its.toArray.size
  unfold slicePick
  rw [h1, h2, h3]
  simp only [sliceRange_one, pick_run, List.size_toArray] <;> rfl
def rSlL (K : PySem.W.Frag) : V → Option Int → Option Int → Hp → VK → Prop := fun x lo hi H Q => ∃ a xs, x = .ref a ∧ SqL K H a xs ∧ ∀ p, H p = none → Q (.ref p) (upd H p (.lst (cutV xs lo hi)))
theorem sl_list : SlR X (rSlL X.K) := by
  intro pins s σ H x v vl vu lo hi sl Q I rx hs pl pu h
  obtain ⟨a, xs, rfl, hx, q⟩ := h
  cases rx
  obtain ⟨its, r, ht, hz⟩ := I.list hx
  have hlen := r.length
  refine ⟨"list", _, slot_list_getitem.lookup, ht.isList.typeIs, ?_⟩
  refine wpAny_getItem_list_slice ht.isList hs pl pu .none (by simp) ?_ (by rw [List.size_toArray] <;> omega)
  rw [slicePick_cut, ← hlen]
  refine ⟨.ref s.heap.objs.size, _, I.laid (t' := s.toks) (o := .lst (cutV xs lo hi)) (fun b ob q => Heap.get?_push_of_some _ q) (Nat.le_refl _) ?_, rfl, q _ (I.hok.fresh (Nat.le_refl _))⟩
  exact ⟨Nat.le_trans (cutV_length xs lo hi) hz, _, 0, (r.drop (HT.sIx xs.length 0 lo)).take (HT.sIx xs.length xs.length hi - HT.sIx xs.length 0 lo), Heap.get?_push_size _ rfl⟩
def flatV : V → Bool
  | .non => true
  | .bl _ => true
  | .int _ => true
  | .str _ => true
  | _ => false
def eqV : V → V → Bool
  | .non, .non => true
  | .bl a, .bl b => a == b
  | .bl a, .int b => (if a then 1 else 0) == b
  | .int a, .bl b => a == (if b then 1 else 0)
  | .int a, .int b => a == b
  | .str a, .str b => a == b
  | _, _ => false
theorem eqAt_V {A : Around} {s : Shared} {y x : V} {u v : Value} (ry : RelV y u) (rx : RelV x v) (fy : flatV y = true) (fx : flatV x = true) : SeqAt.EqAt A s u v (eqV y x) := by
  cases y with
  | non =>
    cases ry
    cases x with
    | non => cases rx; exact SeqAt.EqAt.same _
    | bl b => cases rx; exact SeqAt.EqAt.none_bool b
    | int b => obtain ⟨t, rfl⟩ := rx; exact SeqAt.EqAt.none_int b t
    | str b => obtain ⟨t, rfl⟩ := rx; exact SeqAt.EqAt.none_str b t
    | _ => exact absurd (show false = true from fx) Bool.false_ne_true
  | bl a =>
    cases ry
    cases x with
    | non => cases rx; exact SeqAt.EqAt.bool_none a
    | bl b => cases rx; exact SeqAt.EqAt.bool_bool a b
    | int b => obtain ⟨t, rfl⟩ := rx; exact SeqAt.EqAt.bool_int a b t
    | str b => obtain ⟨t, rfl⟩ := rx; exact SeqAt.EqAt.bool_str a b t
    | _ => exact absurd (show false = true from fx) Bool.false_ne_true
  | int a =>
    obtain ⟨t', rfl⟩ := ry
    cases x with
    | non => cases rx; exact SeqAt.EqAt.int_none a t'
    | bl b => cases rx; exact SeqAt.EqAt.int_bool a t' b
    | int b => obtain ⟨t, rfl⟩ := rx; exact SeqAt.EqAt.int_int a t' b t
    | str b => obtain ⟨t, rfl⟩ := rx; exact SeqAt.EqAt.int_str a t' b t
    | _ => exact absurd (show false = true from fx) Bool.false_ne_true
  | str a =>
    obtain ⟨t', rfl⟩ := ry
    cases x with
    | non => cases rx; exact SeqAt.EqAt.str_none a t'
    | bl b => cases rx; exact SeqAt.EqAt.str_bool a t' b
    | int b => obtain ⟨t, rfl⟩ := rx; exact SeqAt.EqAt.str_int a t' b t
    | str b => obtain ⟨t, rfl⟩ := rx; exact SeqAt.EqAt.str_str a t' b t
    | _ => exact absurd (show false = true from fx) Bool.false_ne_true
  | _ => exact absurd (show false = true from fy) Bool.false_ne_true
def eqU (x : V) (u : Value) : Bool := match u with
  | .none => eqV .non x
  | .bool b => eqV (.bl b) x
  | .int i _ => eqV (.int i) x
  | .str z _ => eqV (.str z) x
  | _ => false
theorem eqU_of {x y : V} {u : Value} (r : RelV y u) (f : flatV y = true) : eqU x u = eqV y x := by
  cases y with
  | non => cases r; rfl
  | bl b => cases r; rfl
  | int i => obtain ⟨t, rfl⟩ := r; rfl
  | str z => obtain ⟨t, rfl⟩ := r; rfl
  | _ => exact absurd (show false = true from f) Bool.false_ne_true
theorem any_eqU {x : V} : ∀ {xs : List V} {us : List Value}, Vals xs us → xs.all flatV = true → us.any (eqU x) = xs.any fun y => eqV y x
  | _, _, .nil, _ => rfl
  | y :: xs, u :: us, .cons r t, f => by
    rw [List.all_cons, Bool.and_eq_true] at f
    rw [List.any_cons, List.any_cons, eqU_of r f.1, any_eqU t f.2]
theorem mem_eqAt {A : Around} {s : Shared} {x : V} {v : Value} (rx : RelV x v) (fx : flatV x = true) : ∀ {xs : List V} {us : List Value}, Vals xs us → xs.all flatV = true → ∀ u ∈ us, SeqAt.EqAt A s u v (eqU x u)
  | _, _, .nil, _ => fun u hu => by cases hu
  | y :: xs, u :: us, .cons r t, f => fun u' hu => by
    rw [List.all_cons, Bool.and_eq_true] at f
    rcases List.mem_cons.mp hu with rfl | hu
    · rw [eqU_of r f.1]; exact eqAt_V r rx f.1 fx
    · exact mem_eqAt rx fx t f.2 u' hu
def inV (x : V) (xs : List V) : Bool := xs.any fun y => eqV y x
def rIn (K : PySem.W.Frag) (neg : Bool) : R2 := fun x y H Q => ∃ p xs, y = .ref p ∧ (SqL K H p xs ∨ SqT K H p xs) ∧ flatV x = true ∧ xs.all flatV = true ∧ Q (.bl (if neg then !inV x xs else inV x xs)) H
theorem op_in_seq : OpR X (compareOp .In) (rIn X.K false) := by
  intro pins s σ H x y v u Q I rx ry h
  obtain ⟨p, xs, rfl, hq, fx, fs, q⟩ := h
  cases ry
  rcases hq with hq | hq
  · obtain ⟨its, r, pl, hz⟩ := I.list hq
    refine SeqAt.in_listAt (eqU x) pl.isList (fun w hw => mem_eqAt rx fx r fs w (by simpa using hw)) ⟨.bl _, H, I, rfl, ?_⟩
    rw [show its.toArray.any (eqU x) = its.any (eqU x) by simp, any_eqU r fs]
    exact q
  · obtain ⟨its, r, pl, hz⟩ := I.tuple hq
    refine SeqAt.in_tupleAt (eqU x) pl (fun w hw => mem_eqAt rx fx r fs w (by simpa using hw)) ⟨.bl _, H, I, rfl, ?_⟩
    rw [show its.toArray.any (eqU x) = its.any (eqU x) by simp, any_eqU r fs]
    exact q
theorem op_notIn_seq : OpR X (compareOp .NotIn) (rIn X.K true) := by
  intro pins s σ H x y v u Q I rx ry h
  obtain ⟨p, xs, rfl, hq, fx, fs, q⟩ := h
  cases ry
  rcases hq with hq | hq
  · obtain ⟨its, r, pl, hz⟩ := I.list hq
    refine SeqAt.notIn_listAt (eqU x) pl.isList (fun w hw => mem_eqAt rx fx r fs w (by simpa using hw)) ⟨.bl _, H, I, rfl, ?_⟩
    rw [show its.toArray.any (eqU x) = its.any (eqU x) by simp, any_eqU r fs]
    exact q
  · obtain ⟨its, r, pl, hz⟩ := I.tuple hq
    refine SeqAt.notIn_tupleAt (eqU x) pl (fun w hw => mem_eqAt rx fx r fs w (by simpa using hw)) ⟨.bl _, H, I, rfl, ?_⟩
    rw [show its.toArray.any (eqU x) = its.any (eqU x) by simp, any_eqU r fs]
    exact q
theorem call_len_seq : CallR X (.builtin "len") (fun xs H Q => ∃ p ys, xs = [.ref p] ∧ (SqL X.K H p ys ∨ SqT X.K H p ys) ∧ Q (.int ys.length) H) := by
  intro pins s σ H xs us Q I r h
  obtain ⟨p, ys, rfl, hq, q⟩ := h
  obtain ⟨u, rfl, rx⟩ := vals1 r
  cases rx
  have hn := line63
  rcases hq with hq | hq
  · obtain ⟨its, r', pl, hz⟩ := I.list hq
    have hlen := r'.length
    exact Calls.call_len_list pl.isList (by simp only [List.size_toArray] <;> omega) ⟨.int ys.length, H, I.tok _, ⟨s.toks + 1, by rw [List.size_toArray, hlen]⟩, q⟩
  · obtain ⟨its, r', pl, hz⟩ := I.tuple hq
    have hlen := r'.length
    exact len_tuple pl (by simp only [List.size_toArray] <;> omega) ⟨.int ys.length, H, I.tok _, ⟨s.toks + 1, by rw [List.size_toArray, hlen]⟩, q⟩
theorem call_len_str : CallR X (.builtin "len") (fun xs H Q => ∃ z, xs = [.str z] ∧ z.length ≤ sizeLine ∧ Q (.int z.length) H) := by
  intro pins s σ H xs us Q I r h
  obtain ⟨z, rfl, hz, q⟩ := h
  obtain ⟨u, rfl, t, rfl⟩ := vals1 r
  have hn := line63
  exact len_str (by omega) ⟨.int z.length, H, I.tok _, ⟨_, rfl⟩, q⟩
theorem call_tuple_of : CallR X (.type "tuple") (fun xs H Q => ∃ p ys, xs = [.ref p] ∧ ((SqL X.K H p ys ∧ ∀ l, H l = none → Q (.ref l) (upd H l (.tup ys))) ∨ (SqT X.K H p ys ∧ Q (.ref p) H))) := by
  intro pins s σ H xs us Q I r h
  obtain ⟨p, ys, rfl, h⟩ := h
  obtain ⟨u, rfl, rx⟩ := vals1 r
  cases rx
  rcases h with ⟨hq, q⟩ | ⟨hq, q⟩
  · obtain ⟨its, r', pl, hz⟩ := I.list hq
    have hlen := r'.length
    refine call_tuple_list pl.isList (fun h' kp => ?_) (by simp only [List.size_toArray] <;> omega)
    have I1 : Inv X pins σ H { s with heap := h' } := I.kept (t' := s.toks) kp
    have I2 : Inv X pins σ (upd H h'.objs.size (.tup ys)) { s with heap := h'.push { cls := .type "tuple", data := .seq its.toArray } } :=
      I1.laid (t' := s.toks) (fun b o e => Heap.get?_push_of_some _ e) (Nat.le_refl _) (show ObjOk X.prog X.w _ _ _ (.tup ys) from ⟨hz, its, r', IsTup.new _ _⟩)
    exact ⟨.ref h'.objs.size, _, I2, rfl, q _ (I1.hok.fresh (Nat.le_refl _))⟩
  · obtain ⟨its, r', pl, hz⟩ := I.tuple hq
    exact call_tuple_same pl ⟨.ref p, H, I, rfl, q⟩
def tyV (K : PySem.W.Frag) (T : String) (x : V) (H : Hp) : Prop := match x with
  | .str _ => T = "str"
  | .int _ => T = "int"
  | .ref p => (T = "list" ∧ ∃ xs, SqL K H p xs) ∨ (T = "tuple" ∧ ∃ o, K.lookup p = some o ∧ o.cls = .type "tuple" ∧ o.dict = none) ∨
      (T = "dict" ∧ ((∃ kvs, H p = some (.dK kvs)) ∨ ∃ kvs, H p = some (.dT kvs))) ∨ (T = "set" ∧ ∃ S n, H p = some (.set S n))
  | _ => False
theorem tyV_is {pins : List (Addr × Obj)} {σ : St} {H : Hp} {s : Shared} {T : String} {x : V} {v : Value} (I : Inv X pins σ H s) (r : RelV x v) (ty : tyV X.K T x H) :
    s.TypeIs v T ∧ ∀ a, v = .ref a → ∃ ob, s.heap.get? a = some ob ∧ ob.dict = none := by
  cases x with
  | str z =>
    obtain ⟨t, rfl⟩ := r
    cases (show T = "str" from ty)
    exact ⟨typeIs_str s z t, fun _ e => nomatch e⟩
  | int i =>
    obtain ⟨t, rfl⟩ := r
    cases (show T = "int" from ty)
    exact ⟨typeIs_int s i t, fun _ e => nomatch e⟩
  | ref p =>
    cases r
    rcases ty with ⟨rfl, xs, hq⟩ | ⟨rfl, o, hk, hc, hd⟩ | ⟨rfl, hk⟩ | ⟨rfl, S, n, hk⟩
    · obtain ⟨its, _, pl, _⟩ := I.list hq
      refine ⟨pl.isList.typeIs, fun a e => ?_⟩
      cases e
      obtain ⟨o, n, e, c, hd, _⟩ := pl
      exact ⟨o, e, hd⟩
    · refine ⟨⟨o, I.kIn p o hk, hc⟩, fun a e => ?_⟩
      cases e
      exact ⟨o, I.kIn _ o hk, hd⟩
    · have z : ∃ o, s.heap.get? p = some o ∧ o.ExactDict := by
        rcases hk with ⟨kvs, hk⟩ | ⟨kvs, hk⟩
        · obtain ⟨_, _, _, _, o, _, _, e, ex, _⟩ := I.hok p _ hk
          exact ⟨o, e, ex⟩
        · obtain ⟨_, _, _, _, o, _, _, e, ex, _⟩ := I.hok p _ hk
          exact ⟨o, e, ex⟩
      obtain ⟨o, e, ex⟩ := z
      refine ⟨⟨o, e, ex.1⟩, fun a e2 => ?_⟩
      cases e2
      exact ⟨o, e, ex.2.1⟩
    · obtain ⟨o, _, _, _, e, ex, _⟩ := I.hok p _ hk
      refine ⟨⟨o, e, ex.1⟩, fun a e2 => ?_⟩
      cases e2
      exact ⟨o, e, ex.2.1⟩
  | _ => exact False.elim ty
def tBM0 (K : PySem.W.Frag) (T : String) (r : V → List V → Hp → VK → Prop) (to : TE) : TE := fun σ H Q => to σ H fun x H1 => tyV K T x H1 ∧ r x [] H1 Q
def tBM (K : PySem.W.Frag) (T : String) (r : V → List V → Hp → VK → Prop) (to : TE) (t : TA) : TE := fun σ H Q => to σ H fun x H1 => tyV K T x H1 ∧ t σ H1 fun xs H2 => r x xs H2 Q
variable {o e : Expr} {es : List Expr} {to : TE} {t : TA} {name : Str} {apos cpos : Pos} {T id : String} {r : V → List V → Hp → VK → Prop}
theorem pe_bm (pa : PlainAttrs T) (slot : Slot T name id) (hty : typeOf (.builtin id) = pure (.type "method_descriptor")) (hm : MtR X id r) (ho : PE X o to) (ha : PA X (e :: es) t)
    (hbase : attributeBase o name X.env (eval o X.env) = eval o X.env := by rfl)
    (hfew : ((backTo cpos (starEach (e :: es) X.env)).all (fun x => !x.1) && (backToKw cpos (keywordEach [] X.env)).all (fun x => x.1.isSome)
      && decide ((e :: es).length + ([] : List Keyword).length + (if ([] : List Keyword).isEmpty then 0 else 1) < 30)) = true := by rfl)
    (hline : (apos.endLine == cpos.line) = true := by rfl) (hs : starEach (e :: es) X.env = (false, eval e X.env) :: starEach es X.env := by rfl) (hplain : (backTo cpos (starEach es X.env)).any (·.1) = false := by rfl) :
    PE X (.Call (.Attribute o name apos) (e :: es) [] cpos) (tBM X.K T r to t) := by
  intro pins s σ H Q I h
  refine wpAny_Call_method_late hbase hfew hline rfl (thn (ho pins s σ H _ I h) fun v s1 ⟨x, H1, I1, r1, ty, q1⟩ => ?_)
  obtain ⟨h1, h2⟩ := tyV_is I1 r1 ty
  refine ⟨T, id, pa, slot, hty, h1, h2, ?_⟩
  have hA := ha cpos pins s1 σ H1 _ I1 q1
  rw [hs] at hA ⊢
  refine Calls.callWith_builtin (by show (false || (backTo cpos (starEach es X.env)).any (·.1)) = false; rw [hplain] <;> rfl) (Calls.evalArgs_plain ?_)
  exact thn hA fun us s2 ⟨vs, H2, I2, r2, q2⟩ => hm pins s2 σ H2 x vs v us Q I2 r1 r2 q2
end
end L2
namespace L2
open PySem PySem.Spec PyProof.Rows
def MtM (X : Cx) (id : String) (r : V → List V → Hp → VK → Prop) : Prop :=
  ∀ (pins : List (Addr × Obj)) (s : Shared) (σ : St) (H : Hp) (x : V) (xs : List V) (v : Value) (us : List Value) (Q : VK), Inv X pins σ H s → RelV x v → Vals xs us → r x xs H Q →
    wpAny (model X.prog X.w) X.A (call (.builtin id) (v :: us)) (EP X pins σ Q) X.xe s
theorem Vals.one : ∀ {x : V} {us : List Value}, Vals [x] us → ∃ u, us = [u] ∧ RelV x u
  | _, _, .cons r .nil => ⟨_, rfl, r⟩
theorem Vals.reverse {xs : List V} {us : List Value} (h : Vals xs us) : Vals xs.reverse us.reverse := by
  induction h with
  | nil => exact .nil
  | cons r t ih => rw [List.reverse_cons, List.reverse_cons]; exact Vals.append ih (.cons r .nil)
section
variable {X : Cx} {pins : List (Addr × Obj)} {σ : St} {H : Hp} {s : Shared} {l b : Addr} {xs ys zs : List V}
theorem Inv.lset {its its' : List Value} {n : Nat} {f : Array Value → Array Value} {t' : Nat} (I : Inv X pins σ H s) (hH : H l = some (.lst xs))
    (e : s.heap.get? l = some { cls := .type "list", data := .seq its.toArray n }) (hf : f its.toArray = its'.toArray) (hv : Vals ys its') (hz : ys.length ≤ sizeLine) :
    Inv X pins σ (upd H l (.lst ys)) { s with heap := s.heap.update l (Obj.mapSeq f), toks := t' } := by
  have q := PySem.IsL.update e f
  rw [hf] at q
  refine I.write (x := l) (e := l) (by rw [hH]; exact trivial) (.inl rfl) (fun b' u hb hu => (Heap.get?_update_other s.heap (Obj.mapSeq f) (Ne.symm hb)).trans hu) ⟨_, q⟩ ?_
  exact ⟨hz, its', _, hv, q⟩
theorem Inv.lnew {its : List Value} {t' : Nat} (I : Inv X pins σ H s) (hv : Vals ys its) (hz : ys.length ≤ sizeLine) :
    Inv X pins σ (upd H s.heap.objs.size (.lst ys)) { s with heap := s.heap.push { cls := .type "list", data := .seq its.toArray }, toks := t' } :=
  I.laid (fun _ _ q => Heap.get?_push_of_some _ q) (Nat.le_refl _) ⟨hz, its, 0, hv, Heap.get?_push_size _ rfl⟩
theorem Inv.fresh (I : Inv X pins σ H s) : H s.heap.objs.size = none := I.hok.fresh (Nat.le_refl _)
theorem Inv.lstM (I : Inv X pins σ H s) (hH : H l = some (.lst xs)) : xs.length ≤ sizeLine ∧ ∃ (its : List Value) (n : Nat), Vals xs its ∧ xs.length = its.length ∧ s.heap.get? l = some { cls := .type "list", data := .seq its.toArray n } := by
  obtain ⟨z, its, n, r, e⟩ := I.hok l _ hH
  exact ⟨z, its, n, r, r.length, e⟩
end
section
variable {X : Cx}
def rAppend : V → List V → Hp → VK → Prop := fun x vs H Q => ∃ l xs y, x = .ref l ∧ vs = [y] ∧ H l = some (.lst xs) ∧ xs.length < sizeLine ∧ Q .non (upd H l (.lst (xs ++ [y])))
theorem mt_append : MtM X "list.append" rAppend := by
  intro pins s σ H x vs v us Q I rx rv h
  obtain ⟨l, xs, y, rfl, rfl, hH, hz, q⟩ := h
  cases rx
  obtain ⟨u, rfl, ru⟩ := rv.one
  obtain ⟨z, its, n, r, hl, e⟩ := I.lstM hH
  refine call_meets F.slot_list_append ⟨_, e, rfl⟩ F.entry_list_append (F.args_list_append_2 _ _) (PySem.list_append l its.toArray n u (by rw [List.size_toArray]; omega)) ⟨e, ?_⟩
  refine ⟨.non, _, I.lset (its' := its ++ [u]) hH e (by simp) (r.append (.cons ru .nil)) ?_, rfl, q⟩
  rw [List.length_append, List.length_singleton]
  omega
def rExtend : V → List V → Hp → VK → Prop := fun x vs H Q => ∃ l b xs zs, x = .ref l ∧ vs = [.ref b] ∧ H l = some (.lst xs) ∧ H b = some (.lst zs) ∧ xs.length + zs.length ≤ sizeLine ∧ Q .non (upd H l (.lst (xs ++ zs)))
def rPop : V → List V → Hp → VK → Prop := fun x vs H Q => ∃ l xs y, x = .ref l ∧ vs = [] ∧ H l = some (.lst xs) ∧ xs[xs.length - 1]? = some y ∧ Q y (upd H l (.lst xs.dropLast))
def rPopAt : V → List V → Hp → VK → Prop := fun x vs H Q => ∃ l xs i k y, x = .ref l ∧ vs = [.int i] ∧ H l = some (.lst xs) ∧ -(2 ^ 63) ≤ i ∧ i < 2 ^ 63 ∧ seqIndex? i xs.length = some k ∧ xs[k]? = some y ∧ Q y (upd H l (.lst (xs.eraseIdx k)))
def rReverse : V → List V → Hp → VK → Prop := fun x vs H Q => ∃ l xs, x = .ref l ∧ vs = [] ∧ H l = some (.lst xs) ∧ Q .non (upd H l (.lst xs.reverse))
def rClear : V → List V → Hp → VK → Prop := fun x vs H Q => ∃ l xs, x = .ref l ∧ vs = [] ∧ H l = some (.lst xs) ∧ Q .non (upd H l (.lst []))
def rCat : R2 := fun x y H Q => ∃ l b xs zs, x = .ref l ∧ y = .ref b ∧ H l = some (.lst xs) ∧ H b = some (.lst zs) ∧ xs.length + zs.length ≤ sizeLine ∧ ∀ p, H p = none → Q (.ref p) (upd H p (.lst (xs ++ zs)))
theorem op_cat : OpR X (binaryOp .Add) rCat := by
  intro pins s σ H x y v u Q I rx ry h
  obtain ⟨l, b, xs, zs, rfl, rfl, hH, hB, hz, q⟩ := h
  cases rx
  cases ry
  obtain ⟨z, its, n, r, hl, e⟩ := I.lstM hH
  obtain ⟨z2, its2, n2, r2, hl2, e2⟩ := I.lstM hB
  refine PySem.P.add_list e e2 ?_ (by rw [List.size_toArray, List.size_toArray]; omega)
  have ea : its.toArray ++ its2.toArray = (its ++ its2).toArray := by simp
  rw [ea]
  exact ⟨.ref _, _, I.lnew (t' := s.toks) (r.append r2) (by rw [List.length_append]; omega), rfl, q _ I.fresh⟩
def rRep : R2 := fun x y H Q => ∃ l k xs, x = .ref l ∧ y = .int k ∧ H l = some (.lst xs) ∧ -(2 ^ 63) ≤ k ∧ k < 2 ^ 63 ∧ xs.length * k.toNat ≤ sizeLine ∧
  ∀ p, H p = none → Q (.ref p) (upd H p (.lst (List.replicate k.toNat xs).flatten))
end
section
variable {prog : Program} {w : World} {A : Around} {E : Value → Shared → Prop} {s : Shared}
end
section
variable {X : Cx}
end
end L2
namespace Att
open PySem PySem.W PySem.Calls PyProof.Rows
theorem ints_of_wellAll {P : Params} {h : Heap} : ∀ (ns : List Int) (vs : List Value), WellAll P h vs (ns.map WData.int) → IntsAre vs ns := by
  intro ns
  induction ns with
  | nil =>
    intro vs w
    rw [List.map_nil] at w
    cases w
    exact .nil
  | cons n ns ih =>
    intro vs w
    rw [List.map_cons] at w
    cases w with
    | cons a b =>
      cases a
      exact .cons _ _ (ih _ b)
theorem script_of {l : OpenLaw} {n : Nat} (hn : l.most = some n) {P : Params} {h : Heap} {args : List WData} {vals : List Value}
    (hpre : l.row.toRowW.claim.pre args = true) (hwl : WellAll P h vals args) :
    ∃ a vs ns, vals = [Value.ref a] ∧ args = [WData.list (ns.map WData.int)] ∧ h.get? a = some { cls := .type "list", data := .seq vs.toArray } ∧ IntsAre vs ns ∧ ns.length ≤ n := by
  have hsh : WShape.hasAll [] args [.list .int] = true := (pre_splitW hpre).1
  have hc : l.pre.holds [] { args := args } = true := (pre_splitW hpre).2
  obtain ⟨d, r, rfl, h1, h2⟩ := hasAllW_cons hsh
  obtain rfl := hasAllW_nil h2
  obtain ⟨xs, rfl, h3⟩ := hasW_list h1
  obtain ⟨ns, rfl⟩ := items_int h3
  have hlen : ns.length ≤ n := by
    unfold OpenLaw.pre at hc
    have h4 : (WTm.not (.lt (.lit (.int (n : Int))) (.len (.arg 0)))).holds [] { args := [.list (ns.map .int)] } = true := by
      have h4 := (holds_andW hc).1
      rw [hn] at h4
      exact h4
    have h5 := condW_of h4 (w_not (w_lt w_lit (w_len_list (w_arg rfl))))
    rw [List.length_map] at h5
    refine Nat.le_of_not_lt fun q => ?_
    have q' : (n : Int) < ((ns.length : Nat) : Int) := by omega
    first
      | (rw [decide_eq_true q'] at h5; exact absurd h5 (by decide))
      | (simp at h5; omega)
  cases hwl with
  | cons w1 w2 =>
    cases w2
    cases w1 with
    | list ho hall => exact ⟨_, _, ns, rfl, rfl, ho, ints_of_wellAll ns _ hall, hlen⟩
theorem post_true (l : OpenLaw) (args : List WData) : l.row.toRowW.claim.post args (.bool true) args = true :=
  postW_of (r := l.row.toRowW) (X := (true == true))
    (show WShape.has [] (.bool true) .bool = true by first | rfl | decide | simp [WShape.has, WShape.arms, WShape.armsAll])
    (show (WTm.eq .res (.lit (.bool true))).value [] { args := args, res := some (.bool true), after := args } = some (.bool (true == true)) from w_eq_bool (w_res rfl) w_lit) rfl
theorem attach_call {l : OpenLaw} {n : Nat} {q : Program} {loose : List Str} {XP : (Str → Option Value) → Heap → Prop} {YP : World → Heap → Prop} {d : DefRec}
    (hn : l.most = some n) (hdf : d.params.defaults = [])
    (call : ∀ (w : World) (s₀ s₁ : Shared) (mg mb : Str → Option Value) (fa : Addr) (o : Obj) (pm cd doc : Value) (a : Addr) (vs : List Value) (ns : List Int),
      Ground q loose [] XP w s₀ mg mb s₁.heap → YP w s₁.heap →
      s₁.heap.get? fa = some o → o.data = .func (docDef d.name d.params d.body d.scope pm cd doc) → s₁.heap.CodeRec cd d.name → mg d.name = some (.ref fa) →
      s₁.heap.get? a = some { cls := .type "list", data := .seq vs.toArray } → IntsAre vs ns → ns.length ≤ n → s₁.gens = #[] →
      codeAny (model l.prog w) callerA (.call (.ref fa) ⟨[.ref a], []⟩) (fun r s' => r = .ok (.ret (.bool true)) ∧ OldK s₁.heap s'.heap ∧ s'.os = s₁.os ∧ AllBare s'.gens) s₁) :
    WalkO q loose XP YP l.row.toRowW d [] (fun f vs => PySem.call f vs) := by
  intro w s₀ s₁ mg mb G Y fa o pm cd doc dV kV ho hd hcd hD hmg hg args vals as hpre hlay hrd hwl hlo
  obtain rfl : dV = .none := Dflts.none hD hdf
  obtain rfl : kV = .none := Dflts.noKw hD
  obtain ⟨a, vs, ns, rfl, rfl, hobj, hints, hlen⟩ := script_of hn hpre hwl
  refine enter_call (codeAny_mono (call w s₀ s₁ mg mb fa o pm cd doc a vs ns G Y ho (fd_plain hd) hcd hmg hobj hints hlen hg) fun r s' hq => ?_)
  obtain ⟨rfl, h2, h3, h4⟩ := hq
  exact ⟨.inl ⟨.bool true, .bool true, [], rfl, fun _ => rfl, .bool true, post_true l _, fun _ => ⟨List.Pairwise.nil, fun _ hm => (nomatch hm)⟩⟩, h2, h3, h4⟩
section
variable {prog : Program} {w : World} {A : Around} {E : Value → Shared → Prop} {s : Shared} {K : Frag}
def noObjs (h : Heap) : Heap := { h with objs := #[] }
def ledger (h : Heap) (L d : Addr) : List (Addr × Obj) := (List.range h.objs.size).filterMap fun a => if a = L ∨ a = d then none else (h.get? a).map fun o => (a, o)
end
end Att
namespace L2
open PySem PySem.Spec PyProof.Rows
theorem vals_ints : ∀ {vs : List Value} {ns : List Int}, IntsAre vs ns → Vals (ns.map V.int) vs
  | _, _, .nil => .nil
  | _, _, .cons n t h => .cons ⟨t, rfl⟩ (vals_ints h)
def Only (H : Hp) : Prop := ∀ b, H b = none ∨ ∃ o xs, H b = some (.frz o (.lst xs))
theorem law_call {P : Program} {w : World} {K : PySem.W.Frag} {mg mb : Str → Option Value} {CX : CXT} {k : Nat} {fa a : Addr} {fd : FuncData} {x : Str} {sp : Sp} {s₁ : Shared} {vs : List Value} {ns : List Int}
    (KX : K.In s₁.heap) (hns : s₁.heap.Ns mainGlobals mg) (hb : s₁.heap.Ns builtinsNs mb) (hbb : ∀ x : Str, x ≠ "__name__" → mb x = bootBuiltins x) (hlim : s₁.heap.NoLimit) (hg : s₁.gens = #[])
    (ha : s₁.heap.get? a = some { cls := .type "list", data := .seq vs.toArray }) (hi : IntsAre vs ns) (hl : ns.length ≤ sizeLine) (hr : Room k callerA)
    (F : ∀ base : Heap, K.In base → base.Ns mainGlobals mg → FnOk P w K mg base CX k fa fd [x] sp) (hbind : ∀ (s : Shared) (u : Value), BindsTo s fd ⟨[u], []⟩ [(x, u)])
    (hsp : ∀ H : Hp, Only H → SqL K H a (ns.map V.int) → sp [.ref a] H (fun v _ => v = .bl true) fun _ _ _ => False)
    (hCX : ∀ H e s', CX [] H s₁ (fun _ _ _ => False) e s' → False) :
    codeAny (model P w) callerA (.call (.ref fa) ⟨[.ref a], []⟩) (fun r s' => r = .ok (.ret (.bool true)) ∧ OldK s₁.heap s'.heap ∧ s'.os = s₁.os ∧ AllBare s'.gens) s₁ := by
  have rv := vals_ints hi
  have lenV := hi.length
  have core : ∀ H : Hp, Only H → SqL K H a (ns.map V.int) → HOk P w H s₁.heap → (∀ b, H b ≠ none → b = a) → (H a ≠ none → K.lookup a = none) →
      codeAny (model P w) callerA (.call (.ref fa) ⟨[.ref a], []⟩) (fun r s' => r = .ok (.ret (.bool true)) ∧ OldK s₁.heap s'.heap ∧ s'.os = s₁.os ∧ AllBare s'.gens) s₁ := by
    intro H hO hS hok hA hK
    have base_of : ∀ {b : Addr} {o : Obj}, s₁.heap.get? b = some o → H b = none → (hidT s₁.heap H).get? b = some o := fun e n => hidT_get e n
    have noA : ∀ {b : Addr} {o : Obj} {es : Array DictEntry} {ep : Nat}, s₁.heap.get? b = some o → o.data = .dict es ep → H b = none := fun {b o es ep} e d => by
      cases q : H b with
      | none => rfl
      | some u =>
        have e' : b = a := hA b (by rw [q]; simp)
        subst e'
        rw [ha] at e; cases e
        have d' : Data.seq vs.toArray _ = Data.dict es ep := d
        cases d'
    have nsK : ∀ {b : Addr} {m : Str → Option Value}, s₁.heap.Ns b m → (hidT s₁.heap H).Ns b m := fun {b m} ⟨o, es, ep, e, d, r⟩ => ⟨o, es, ep, base_of e (noA e d), d, r⟩
    have hKb : K.In (hidT s₁.heap H) := fun b o e => base_of (KX b o e) (by
      cases q : H b with
      | none => rfl
      | some u =>
        have e' : b = a := hA b (by rw [q]; simp)
        subst e'
        rw [hK (by rw [q]; simp)] at e; cases e)
    have hM : Mod K mg (hidT s₁.heap H) := ⟨hKb, nsK hns, ⟨mb, nsK hb, hbb⟩, let ⟨mc, h1, h2⟩ := hlim; ⟨mc, nsK h1, h2⟩⟩
    have e0 : Env0 P w K mg (hidT s₁.heap H) callerA [] s₁ H := ⟨rfl, hM, fun b o e => of_hidT e, Nat.le_of_eq (hidT_size _ _), trivial, fun b hb => absurd (show b ∈ ([] : List Addr) from hb) (by simp), hok, .of_eq hg⟩
    refine codeAny_mono ((F _ hKb (nsK hns)).run callerA [] s₁ H ⟨[.ref a], []⟩ [.ref a] [.ref a] _ _ hr e0 (hbind s₁ (.ref a)) (.cons rfl .nil) (hsp H hO hS)) fun r s' h => ?_
    cases r with
    | error e => exact (hCX H e s' h).elim
    | ok fl =>
      cases fl with
      | next => exact False.elim h
      | brk => exact False.elim h
      | cont => exact False.elim h
      | ret u =>
        obtain ⟨v, H', os, bare, un, hok', r', q⟩ := h
        have q' : v = .bl true := q
        subst q'
        obtain rfl : u = Value.bool true := r'
        refine ⟨rfl, OldK.of_keep fun b o e => ?_, os, bare⟩
        cases q : H b with
        | none => exact un.keep b o e q (by intro z; exact absurd (show b ∈ ([] : List Addr) from z) (by simp)) (by simp)
        | some u =>
          rcases hO b with z | ⟨ob, xs, z⟩
          · rw [q] at z; cases z
          · have z2 := un.frzs b ob _ z
            obtain ⟨e1, _⟩ := hok b _ z
            obtain ⟨e2, _⟩ := hok' b _ z2
            rw [e] at e1; cases e1
            exact e2
  cases hk : K.lookup a with
  | some o =>
    have e := KX a o hk
    rw [ha] at e
    cases e
    refine core (fun _ => none) (fun _ => .inl rfl) (.inr ⟨_, vs.toArray, _, hk, rfl, rfl, rfl, by rw [List.size_toArray, lenV]; exact hl, by simpa using rv⟩) (fun b u z => by have z' : (none : Option HO) = some u := z; cases z') (fun b z => absurd rfl z) fun z => absurd rfl z
  | none =>
    refine core (fun b => if b = a then some (.frz { cls := .type "list", data := .seq vs.toArray } (.lst (ns.map V.int))) else none) (fun b => ?_) (.inl (.inr ⟨{ cls := .type "list", data := .seq vs.toArray }, if_pos rfl⟩)) (fun b u z => ?_) (fun b z => ?_) fun _ => hk
    · by_cases hb : b = a
      · exact .inr ⟨_, _, if_pos hb⟩
      · exact .inl (if_neg hb)
    · by_cases hb : b = a
      · have z' := (if_pos hb).symm.trans z
        cases z'
        subst hb
        exact ⟨ha, by rw [List.length_map]; exact hl, vs, _, rv, ha⟩
      · have z' := (if_neg hb).symm.trans z
        cases z'
    · by_cases hb : b = a
      · exact hb
      · exact absurd (if_neg hb) z
end L2
namespace L2
open PySem PySem.Spec PyProof.Rows
abbrev KOf {K : PySem.W.Frag} {h : Heap} (_ : K.In h) : PySem.W.Frag := K
theorem walk_of {l : PySem.W.OpenLaw} {n k : Nat} {q : Program} {loose : List Str} {XP : (Str → Option Value) → Heap → Prop} {YP : World → Heap → Prop} {d : DefRec} {K : Params → PySem.W.Frag} {CX : World → CXT} {sp : World → Sp} {x : Str}
    (hn : l.most = some n) (hn2 : n ≤ sizeLine) (hdf : d.params.defaults = []) (hr : Room k callerA)
    (hY : ∀ (w : World) (h : Heap), YP w h → (K w.params).In h)
    (F : ∀ (w : World) (mg : Str → Option Value) (fa : Addr) (h : Heap), (K w.params).In h → h.Ns mainGlobals mg → mg d.name = some (.ref fa) →
      ∃ fd : FuncData, (∀ (s : Shared) (u : Value), BindsTo s fd ⟨[u], []⟩ [(x, u)]) ∧
        ∀ base : Heap, (K w.params).In base → base.Ns mainGlobals mg → FnOk l.prog w (K w.params) mg base (CX w) k fa fd [x] (sp w))
    (hsp : ∀ (w : World) (H : Hp) (a : Addr) (ns : List Int), ns.length ≤ n → Only H → SqL (K w.params) H a (ns.map V.int) → sp w [.ref a] H (fun v _ => v = .bl true) fun _ _ _ => False)
    (hCX : ∀ (w : World) (H : Hp) (s : Shared) (e : Value) (s' : Shared), CX w [] H s (fun _ _ _ => False) e s' → False) :
    PySem.W.WalkO q loose XP YP l.row.toRowW d [] (fun f vs => PySem.call f vs) := by
  refine Att.attach_call hn hdf fun w s₀ s₁ mg mb fa o pm cd doc a vs ns G Y ho hd hcd hmg hobj hints hlen hg => ?_
  have KX := hY w _ Y
  obtain ⟨fd, hb, hF⟩ := F w mg fa _ KX G.T.g hmg
  exact law_call KX G.T.g G.T.b G.T.builtins G.T.nolimit hg hobj hints (Nat.le_trans hlen hn2) hr hF hb (fun H hO hS => hsp w H a ns hlen hO hS) fun H e s' => hCX w H s₁ e s'
end L2
namespace L2
open PySem PySem.Spec PyProof.Rows
def inClass (s : Stmt) (j : Nat) : Stmt := match s with
  | .ClassDef _ _ _ body _ _ _ _ _ _ _ => body.getD j (.Pass ⟨0, 0, 0, 0⟩)
  | _ => .Pass ⟨0, 0, 0, 0⟩
def defArgs (s : Stmt) : Arguments := match s with
  | .FunctionDef _ a _ _ _ _ _ _ _ _ => a
  | _ => { posonlyargs := [], args := [], vararg := none, kwonlyargs := [], kw_defaults := [], kwarg := none, defaults := [] }
def defBody (s : Stmt) : List Stmt := match s with
  | .FunctionDef _ _ b _ _ _ _ _ _ _ => b
  | _ => []
def defScope (s : Stmt) : Scope := match s with
  | .FunctionDef _ _ _ _ _ _ sc _ _ _ => sc
  | _ => { kind := .function, names := [], isGenerator := false, isCoroutine := false }
abbrev CX0 : CXT := fun _ _ _ _ _ _ => False
abbrev E0 : XK := fun _ _ _ => False
theorem pass0 {X : Cx} : Passes CX0 X E0 := fun _ _ _ _ _ _ _ h => h.elim
structure Fun (K : PySem.W.Frag) (x qual : Str) (st : Stmt) (f : Addr) (fd : FuncData) : Prop where
  ex : ∃ (oc : Value) (od : Option Addr) (kV doc pm : Value) (an : Option Addr) (cdv ct : Value) (osl : Array (Option Value)),
    fd = PySem.W.fnOf x qual (defArgs st) (defBody st) (defScope st) .none kV doc pm an cdv ct ∧ K.lookup f = some ⟨oc, od, .func fd, osl⟩ ∧ PySem.W.codeIn K cdv qual = true
  kp : PySem.W.keepIn K (.ref f) = true
section
variable {P : Program} {w : World} {K : PySem.W.Frag} {mg : Str → Option Value} {base : Heap}
theorem Fun.ok {x qual : Str} {st : Stmt} {f : Addr} {fd : FuncData} {N ps : List Str} {k : Nat} {sp : Sp} (F : Fun K x qual st f fd) (S : FnScope N ps (defScope st)) (len : ∀ vs H Q E, sp vs H Q E → vs.length = ps.length)
    (hbody : ∀ (cdv : Value) (A : Around) (outer : List Env) (s : Shared) (H : Hp) (vs : List V) (Q : VK) (E : XK), Room k (A.deeper (envOfC qual (defScope st) s.heap.objs.size f cdv)) → sp vs H Q E →
      ∃ t, PSs (cxOf CX0 P w K mg base N qual (defScope st) f cdv A outer s H E).nox (defBody st) t ∧ t { nx := fun _ H' => Q .non H', rt := Q } (start N vs) H) : FnOk P w K mg base CX0 (k + 1) f fd ps sp := by
  obtain ⟨oc, od, kV, doc, pm, an, cdv, ct, osl, rfl, lk, hcd⟩ := F.ex
  refine fn_of lk hcd S len fun A outer s H vs Q E hr hsp => ?_
  obtain ⟨t, h, q⟩ := hbody cdv A outer s H vs Q E hr hsp
  exact ⟨t, h.nox, q⟩
theorem Fun.binds {x qual : Str} {st : Stmt} {f : Addr} {fd : FuncData} {ps : List Str} (F : Fun K x qual st f fd)
    (h : ∀ (kV doc pm : Value) (an : Option Addr) (cdv ct : Value) (us : List Value), us.length = ps.length → bindArgs (PySem.W.fnOf x qual (defArgs st) (defBody st) (defScope st) .none kV doc pm an cdv ct) ⟨us, []⟩ = pure (ps.zip us)) : Binds K fd ps [] := by
  obtain ⟨oc, od, kV, doc, pm, an, cdv, ct, osl, rfl, lk, hcd⟩ := F.ex
  exact .all (h kV doc pm an cdv ct)
theorem fun_mk {x qual : Str} {st : Stmt} {f : Addr} {oc : Value} {od an : Option Addr} {osl : Array (Option Value)} {kV doc pm cdv ct : Value} (l : K.lookup f = some ⟨oc, od, .func (PySem.W.fnOf x qual (defArgs st) (defBody st) (defScope st) .none kV doc pm an cdv ct), osl⟩)
    (c : PySem.W.codeIn K cdv qual = true) (k : PySem.W.keepIn K (.ref f) = true) : Fun K x qual st f (PySem.W.fnOf x qual (defArgs st) (defBody st) (defScope st) .none kV doc pm an cdv ct) := ⟨⟨oc, od, kV, doc, pm, an, cdv, ct, osl, rfl, l, c⟩, k⟩
end
section
variable {X : Cx}
theorem pv (i : Nat) {x : Str} {pos : Pos} (hN : X.N[i]? = some x := by rfl) (hv : Vis X.env.scope x := by first | exact Or.inl rfl | exact Or.inr (Or.inl rfl) | exact Or.inr (Or.inr rfl)) (hd : (x == ("__debug__" : Str)) = false := by decide)
    (hcd : (x == ("__classdict__" : Str)) = false := by decide) : PE X (.Name x pos) (tVar i) := pe_var hN hv hd hcd
end
theorem iteF {A B : Prop} (h : B) : if false = true then A else B := by
  rw [if_neg Bool.false_ne_true]
  exact h
theorem iteT {A B : Prop} (h : A) : if true = true then A else B := by
  rw [if_pos rfl]
  exact h
theorem ite2 {c A B : Prop} [Decidable c] (h1 : c → A) (h2 : ¬ c → B) : if c then A else B := by
  by_cases h : c
  · rw [if_pos h]
    exact h1 h
  · rw [if_neg h]
    exact h2 h
def Same (H H' : Hp) : Prop := ∀ b o, H b = some o → H' b = some o
theorem Same.refl (H : Hp) : Same H H := fun _ _ h => h
theorem Same.trans {H H1 H2 : Hp} (a : Same H H1) (b : Same H1 H2) : Same H H2 := fun c o h => b c o (a c o h)
theorem Same.free {H H' : Hp} (e : Same H H') {l : Addr} (h : H' l = Option.none) : H l = Option.none := by
  cases q : H l with
  | none => rfl
  | some o =>
    rw [e l o q] at h
    cases h
theorem Same.seq {K : PySem.W.Frag} {H H' : Hp} {a : Addr} {xs : List V} (e : Same H H') (h : SqL K H a xs) : SqL K H' a xs := by
  rcases h with (h | ⟨o, h⟩) | h
  · exact .inl (.inl (e _ _ h))
  · exact .inl (.inr ⟨o, e _ _ h⟩)
  · exact .inr h
end L2
end
section
set_option Elab.async false
set_option linter.all false
set_option maxRecDepth 100000
namespace L2
open PySem PySem.Spec PyProof.Rows
section
variable {κ : Type} [DecidableEq κ]
def valV (kvs : List (κ × V)) (k : κ) : Option V := (kvs.find? fun kv => decide (kv.1 = k)).map (·.2)
def putK (kvs : List (κ × V)) (k : κ) (v : V) : List (κ × V) :=
  if (kvs.any fun kv => decide (kv.1 = k)) = true then kvs.map (fun kv => if kv.1 = k then (kv.1, v) else kv) else kvs ++ [(k, v)]
def dropK (kvs : List (κ × V)) (k : κ) : List (κ × V) := kvs.filter fun kv => decide (kv.1 ≠ k)
end
abbrev KT (H : Hp) : List (List Key × V) → List (List Key × Addr × Value) → Prop := Paired fun p q => p.1 = q.1 ∧ H q.2.1 = some (.tup (p.1.map kV)) ∧ RelV p.2 q.2.2
section
variable {P : Program} {w : World} {H : Hp} {h : Heap} {a : Addr}
end
def DGet (H : Hp) (a : Addr) (y : V) (r : Option V) : Prop :=
  (∃ kvs k, Rd H a (.dK kvs) ∧ y = kV k ∧ r = valV kvs k) ∨ ∃ kvs k b, Rd H a (.dT kvs) ∧ y = .ref b ∧ H b = some (.tup (k.map kV)) ∧ r = valV kvs k
def DPut (H : Hp) (a : Addr) (y v : V) (H' : Hp) : Prop :=
  (∃ kvs k, H a = some (.dK kvs) ∧ y = kV k ∧ kvs.length < sizeLine ∧ H' = upd H a (.dK (putK kvs k v))) ∨
  ∃ kvs k b, H a = some (.dT kvs) ∧ y = .ref b ∧ H b = some (.tup (k.map kV)) ∧ kvs.length < sizeLine ∧ H' = upd H a (.dT (putK kvs k v))
section
variable {X : Cx} {pins : List (Addr × Obj)} {σ : St} {H : Hp} {s : Shared} {a : Addr} {y v : V} {u r : Value} {o : Option V} {A : Around} {E : Value → Shared → Prop}
end
section
variable {X : Cx} {pins : List (Addr × Obj)} {σ : St} {H : Hp} {s : Shared} {a : Addr} {kvs : List (Key × V)} {k : Key} {u : Value} {A : Around} {E : Value → Shared → Prop}
end
def NoSl (i : Expr) : Prop := ∀ ov iv, subscripted i false ov iv = operate [ov, iv] (getItem ov iv)
def tDGet (td ty : TE) : TE := fun σ H Q => td σ H fun x H1 => ty σ H1 fun y H2 => ∃ a v, x = .ref a ∧ DGet H2 a y (some v) ∧ Q v H2
def tDIn (ty td : TE) : TE := fun σ H Q => ty σ H fun y H1 => td σ H1 fun x H2 => ∃ a o, x = .ref a ∧ DGet H2 a y o ∧ Q (.bl o.isSome) H2
def tDNotIn (ty td : TE) : TE := fun σ H Q => ty σ H fun y H1 => td σ H1 fun x H2 => ∃ a o, x = .ref a ∧ DGet H2 a y o ∧ Q (.bl (!o.isSome)) H2
def sDPut (td ty tv : TE) : TS := fun D σ H => tv σ H fun v H1 => td σ H1 fun x H2 => ty σ H2 fun y H3 => ∃ a H4, x = .ref a ∧ DPut H3 a y v H4 ∧ D.nx σ H4
def sDAug (td ty tv : TE) (rd : V → V → Hp → VK → Prop) : TS := fun D σ H => td σ H fun x H1 => ty σ H1 fun y H2 => ∃ a v, x = .ref a ∧ DGet H2 a y (some v) ∧
  tv σ H2 fun y2 H3 => rd v y2 H3 fun z H4 => ∃ H5, DPut H4 a y z H5 ∧ D.nx σ H5
def sDDel (td ty : TE) : TS := fun D σ H => td σ H fun x H1 => ty σ H1 fun y H2 => ∃ a kvs k, x = .ref a ∧ H2 a = some (.dK kvs) ∧ y = kV k ∧ (valV kvs k).isSome = true ∧ D.nx σ (upd H2 a (.dK (dropK kvs k)))
section
variable {X : Cx} {o i e value : Expr} {pos pos' tpos : Pos} {td ty tv : TE}
end
def tDNewK : TE := fun _ H Q => ∀ p, H p = none → Q (.ref p) (upd H p (.dK []))
def tDNewT : TE := fun _ H Q => ∀ p, H p = none → Q (.ref p) (upd H p (.dT []))
section
variable {X : Cx} {pos : Pos}
end
def tPairs : List (TE × TE) → St → Hp → (List (V × V) → Hp → Prop) → Prop
  | [], _, H, Q => Q [] H
  | (tk, tv) :: r, σ, H, Q => tk σ H fun x H1 => tv σ H1 fun y H2 => tPairs r σ H2 fun ps H3 => Q ((x, y) :: ps) H3
abbrev VV : List (V × V) → List (Value × Value) → Prop := Paired fun p q => RelV p.1 q.1 ∧ RelV p.2 q.2
def PPs (X : Cx) (pos : Pos) (keys : List (Option Expr)) (values : List Expr) (trs : List (TE × TE)) : Prop :=
  ∀ (pins : List (Addr × Obj)) (s : Shared) (σ : St) (H : Hp) (Q : List (V × V) → Hp → Prop), Inv X pins σ H s → tPairs trs σ H Q →
    wpAny (model X.prog X.w) X.A (evalPairs (pairTrees keys values X.env pos)) (fun vs s' => ∃ ps H', Inv X pins σ H' s' ∧ VV ps vs ∧ Q ps H') X.xe s
def mergeK (kvs more : List (Key × V)) : List (Key × V) := more.foldl (fun acc kv => putK acc kv.1 kv.2) kvs
def tDisp (trs : List (TE × TE)) : TE := fun σ H Q => ∀ p, H p = none → tPairs trs σ (upd H p (.dK [])) fun ps H2 => H2 p = some (.dK []) ∧ ∃ kvs : List (Key × V), ps = kvs.map (fun kv => (kV kv.1, kv.2)) ∧ kvs.length ≤ 15 ∧ Q (.ref p) (upd H2 p (.dK (mergeK [] kvs)))
structure M1 (X : Cx) (o : Expr) (m : Str) (apos : Pos) (e : Expr) (cpos : Pos) : Prop where
  base : attributeBase o m X.env (eval o X.env) = eval o X.env
  few : ((backTo cpos (starEach [e] X.env)).all (fun x => !x.1) && (backToKw cpos (keywordEach [] X.env)).all (fun x => x.1.isSome)
    && decide (([e] : List Expr).length + ([] : List Keyword).length + (if ([] : List Keyword).isEmpty then 0 else 1) < 30)) = true
  line : (apos.endLine == cpos.line) = true
  trees : backTo cpos (starEach [e] X.env) = [(false, eval e X.env)]
structure M2 (X : Cx) (o : Expr) (m : Str) (apos : Pos) (e f : Expr) (cpos : Pos) : Prop where
  base : attributeBase o m X.env (eval o X.env) = eval o X.env
  few : ((backTo cpos (starEach [e, f] X.env)).all (fun x => !x.1) && (backToKw cpos (keywordEach [] X.env)).all (fun x => x.1.isSome)
    && decide (([e, f] : List Expr).length + ([] : List Keyword).length + (if ([] : List Keyword).isEmpty then 0 else 1) < 30)) = true
  line : (apos.endLine == cpos.line) = true
  trees : backTo cpos (starEach [e, f] X.env) = [(false, eval e X.env), (false, eval f X.env)]
def IsD (H : Hp) (a : Addr) : Prop := (∃ kvs, Rd H a (.dK kvs)) ∨ ∃ kvs, Rd H a (.dT kvs)
section
variable {X : Cx} {pins : List (Addr × Obj)} {σ : St} {H : Hp} {s : Shared} {a : Addr} {y d : V} {u r : Value} {o : Option V} {A : Around} {E : Value → Shared → Prop}
end
def tDGet1 (td ty : TE) : TE := fun σ H Q => td σ H fun x H1 => ∃ a, x = .ref a ∧ IsD H1 a ∧ ty σ H1 fun y H2 => ∃ o, DGet H2 a y o ∧ Q (o.getD .non) H2
def tDGet2 (td ty tx : TE) : TE := fun σ H Q => td σ H fun x H1 => ∃ a, x = .ref a ∧ IsD H1 a ∧ ty σ H1 fun y H2 => tx σ H2 fun z H3 => ∃ o, DGet H3 a y o ∧ Q (o.getD z) H3
def tDPop1 (td ty : TE) : TE := fun σ H Q => td σ H fun x H1 => ∃ a, x = .ref a ∧ IsD H1 a ∧ ty σ H1 fun y H2 => ∃ kvs k v, H2 a = some (.dK kvs) ∧ y = kV k ∧ valV kvs k = some v ∧ Q v (upd H2 a (.dK (dropK kvs k)))
def tDPop2 (td ty tx : TE) : TE := fun σ H Q => td σ H fun x H1 => ∃ a, x = .ref a ∧ IsD H1 a ∧ ty σ H1 fun y H2 => tx σ H2 fun z H3 => ∃ kvs k, H3 a = some (.dK kvs) ∧ y = kV k ∧
  (∀ v, valV kvs k = some v → Q v (upd H3 a (.dK (dropK kvs k)))) ∧ (valV kvs k = none → Q z H3)
section
variable {X : Cx} {o e f : Expr} {apos cpos : Pos} {td ty tx : TE}
end
section
variable {X : Cx} {pins : List (Addr × Obj)} {σ : St} {H : Hp} {s : Shared} {a : Addr} {kvs : List (Key × V)} {A : Around} {E : Value → Shared → Prop}
end
section
variable {X : Cx} {pins : List (Addr × Obj)} {σ : St} {H : Hp} {s : Shared} {a : Addr} {y : V} {u : Value} {A : Around} {E : Value → Shared → Prop}
end
end L2
namespace L2
open PySem PySem.Spec PyProof.Rows
section
variable {κ : Type} [DecidableEq κ]
end
end L2
end
section
set_option Elab.async false
set_option linter.all false
set_option maxRecDepth 100000
set_option maxHeartbeats 1000000
namespace L2
open PySem PySem.Spec PyProof.Rows
def clGo (cells : List (Str × Addr)) : List (Str × NameKind) → List (Str × Addr) → List (Str × Addr)
  | [], acc => acc
  | (n, k) :: r, acc => clGo cells r (if k == .free then (n, (cells.lookup n).getD 0) :: acc else acc)
theorem closureFor_eq {scope : Scope} {env : Env} (h : ∀ y ∈ scope.names, y.2 = .free → ∃ c, env.cells.lookup y.1 = some c) : closureFor scope env = pure (clGo env.cells scope.names []) := by
  unfold closureFor
  have key : ∀ (l : List (Str × NameKind)) (acc : List (Str × Addr)), (∀ y ∈ l, y.2 = .free → ∃ c, env.cells.lookup y.1 = some c) →
      (forIn l acc (fun x r => match x with
        | (name, kind) => if (kind == NameKind.free) = true then do let a ← cellOf env name; pure (ForInStep.yield ((name, a) :: r)) else pure (ForInStep.yield r)) : Sem (List (Str × Addr))) = pure (clGo env.cells l acc) := by
    intro l
    induction l with
    | nil => intro acc _; rfl
    | cons y r ih =>
      intro acc hl
      obtain ⟨n, k⟩ := y
      rw [List.forIn_cons]
      have ih' := fun acc => ih acc fun y hy => hl y (List.mem_cons_of_mem _ hy)
      by_cases hk : (k == NameKind.free) = true
      · obtain ⟨c, hc⟩ := hl (n, k) List.mem_cons_self (by simpa using hk)
        have e1 : cellOf env n = pure c := by unfold cellOf; have hc' : env.cells.lookup n = some c := hc; rw [hc']
        dsimp only
        rw [if_pos hk, e1]
        simp only [pure_bind]
        rw [ih']
        unfold clGo
        rw [if_pos hk]
        have hc' : env.cells.lookup n = some c := hc
        rw [hc']
        conv => rhs; unfold clGo
        rfl
      · dsimp only
        rw [if_neg hk]
        simp only [pure_bind]
        rw [ih']
        conv => rhs; unfold clGo
        rw [if_neg hk]
  have := key scope.names [] h
  simp only [bind_pure] at *
  exact this
theorem clGo_look {cells : List (Str × Addr)} : ∀ {l : List (Str × NameKind)} {acc : List (Str × Addr)} {x : Str} {c : Addr}, (∀ y ∈ l, y.2 = .free → ∃ c, cells.lookup y.1 = some c) → (∀ x c, acc.lookup x = some c → cells.lookup x = some c) →
    (clGo cells l acc).lookup x = some c → cells.lookup x = some c
  | [], _, _, _, _, ha, e => ha _ _ e
  | (n, k) :: r, acc, x, c, h, ha, e => by
    unfold clGo at e
    refine clGo_look (fun y hy => h y (List.mem_cons_of_mem _ hy)) ?_ e
    intro x c e
    by_cases hk : (k == NameKind.free) = true
    · rw [if_pos hk] at e
      obtain ⟨c', hc⟩ := h (n, k) List.mem_cons_self (by simpa using hk)
      have hc' : cells.lookup n = some c' := hc
      rw [List.lookup_cons] at e
      by_cases hx : (x == n) = true
      · rw [hx] at e
        have hxn : x = n := by simpa using hx
        subst hxn
        simp only [hc', Option.getD_some] at e
        rw [hc']; exact e
      · have hx' : (x == n) = false := by simpa using hx
        rw [hx'] at e
        exact ha _ _ e
    · rw [if_neg hk] at e
      exact ha _ _ e
theorem clGo_has {cells : List (Str × Addr)} : ∀ {l : List (Str × NameKind)} {acc : List (Str × Addr)} {x : Str}, ((x, NameKind.free) ∈ l ∨ (acc.lookup x).isSome = true) → ((clGo cells l acc).lookup x).isSome = true
  | [], _, _, h => by
    rcases h with h | h
    · cases h
    · exact h
  | (n, k) :: r, acc, x, h => by
    unfold clGo
    refine clGo_has ?_
    rcases h with h | h
    · rcases List.mem_cons.mp h with e | h
      · right
        cases e
        simp [List.lookup_cons]
      · exact .inl h
    · right
      split
      · rw [List.lookup_cons]
        split
        · rfl
        · exact h
      · exact h
theorem relabel_free {env : Env} {x : Str} {k : NameKind} : ∀ {names : List (Str × NameKind)}, (∀ y ∈ names, y.2 ≠ .cell) →
    (names.map fun (n, k) => if (k == NameKind.free && env.scope.kind == .function && env.kindOf n == some .cell) then (n, NameKind.cell) else (n, k)).lookup x = some k → (k = .cell ∨ k = .free) → (x, NameKind.free) ∈ names
  | [], _, h, _ => by simp at h
  | (n, k') :: r, hc, h, hk => by
    rw [List.map_cons, List.lookup_cons] at h
    have ih := @relabel_free env x k r (fun y hy => hc y (List.mem_cons_of_mem _ hy))
    by_cases c : (k' == NameKind.free && env.scope.kind == .function && env.kindOf n == some .cell) = true
    · rw [if_pos c] at h
      have hf : k' = .free := by
        have := (Bool.and_eq_true _ _ ▸ (Bool.and_eq_true _ _ ▸ c).1).1
        simpa using this
      by_cases hx : (x == n) = true
      · have : x = n := by simpa using hx
        subst this; subst hf
        exact List.mem_cons_self
      · have hx' : (x == n) = false := by simpa using hx
        simp only [hx'] at h
        exact List.mem_cons_of_mem _ (ih h hk)
    · rw [if_neg c] at h
      by_cases hx : (x == n) = true
      · simp only [hx] at h
        have : x = n := by simpa using hx
        subst this
        have hkk : k' = k := Option.some.inj h
        subst hkk
        rcases hk with hk | hk
        · exact absurd hk (hc (x, k') List.mem_cons_self)
        · subst hk; exact List.mem_cons_self
      · have hx' : (x == n) = false := by simpa using hx
        simp only [hx'] at h
        exact List.mem_cons_of_mem _ (ih h hk)
theorem relabel_vis {env : Env} {x : Str} : ∀ {names : List (Str × NameKind)}, names.lookup x = some .free →
    (names.map fun (n, k) => if (k == NameKind.free && env.scope.kind == .function && env.kindOf n == some .cell) then (n, NameKind.cell) else (n, k)).lookup x = some .cell ∨
    (names.map fun (n, k) => if (k == NameKind.free && env.scope.kind == .function && env.kindOf n == some .cell) then (n, NameKind.cell) else (n, k)).lookup x = some .free
  | [], h => by simp at h
  | (n, k') :: r, h => by
    have ih := @relabel_vis env x r
    rw [List.lookup_cons] at h
    rw [List.map_cons, List.lookup_cons]
    by_cases hx : (x == n) = true
    · simp only [hx] at h
      have hk : k' = .free := Option.some.inj h
      by_cases c : (k' == NameKind.free && env.scope.kind == .function && env.kindOf n == some .cell) = true
      · rw [if_pos c]; simp only [hx]; exact .inl trivial
      · rw [if_neg c]; simp only [hx, hk]; exact .inr trivial
    · have hx' : (x == n) = false := by simpa using hx
      simp only [hx'] at h
      by_cases c : (k' == NameKind.free && env.scope.kind == .function && env.kindOf n == some .cell) = true
      · rw [if_pos c]; simp only [hx']; exact ih h
      · rw [if_neg c]; simp only [hx']; exact ih h
def cxComp (X : Cx) (scope : Scope) (C : Addr) (fp : List Addr) (N : List Str) (s : Shared) (H : Hp) : Cx :=
  { X with N := N, s₀ := s, H₀ := H, env := compEnvC scope (clGo X.env.cells scope.names []) C X.env, outer := X.stack, stack := X.stack, ex := fp, fn := fun _ => false, xe := fun _ _ => False }
def pick (js : List Nat) (σ : St) : St := js.map fun j => (σ[j]?).join
structure CompScope (X : Cx) (scope : Scope) (ts : List Str) (cap : List Str) (js : List Nat) : Prop where
  kind : scope.kind = .function
  nocell : ∀ y ∈ scope.names, y.2 ≠ .cell
  names : ∀ y ∈ scope.names, y.2 = .local → scope.names.lookup y.1 = some .local
  free : ∀ y ∈ scope.names, y.2 = .free → X.env.kindOf y.1 = some .cell ∨ X.env.kindOf y.1 = some .free
  caps : cap.map some = js.map fun j => X.N[j]?
  capf : ∀ y ∈ cap, scope.names.lookup y = some .free
  nd : (ts ++ cap).Nodup
theorem mem_of_look {names : List (Str × NameKind)} {y : Str} {k : NameKind} (h : names.lookup y = some k) : (y, k) ∈ names := PySem.mem_of_lookup h
section
variable {X : Cx} {pins : List (Addr × Obj)} {σ : St} {H : Hp} {s : Shared} {scope : Scope} {ts cap : List Str} {js : List Nat} {fp : List Addr} {C : Addr}
theorem CompScope.cells (CS : CompScope X scope ts cap js) (ok : X.Ok) : ∀ y ∈ scope.names, y.2 = .free → ∃ c, X.env.cells.lookup y.1 = some c := fun y hy hf => ok.has _ (CS.free y hy hf)
theorem CompScope.look (CS : CompScope X scope ts cap js) (ok : X.Ok) {x : Str} {c : Addr} (e : (clGo X.env.cells scope.names []).lookup x = some c) : X.env.cells.lookup x = some c :=
  clGo_look (CS.cells ok) (fun _ _ z => by simp at z) e
theorem comp_ok (I : Inv X pins σ H s) (CS : CompScope X scope ts cap js) (hf : ∀ b ∈ fp, FpOk X pins H b) (hfl : ∀ b ∈ fp, b < s.heap.objs.size) (hC : s.heap.objs.size ≤ C) : (cxComp X scope C fp (ts ++ cap) s H).Ok where
  mod := I.ok.mod
  kind := CS.kind
  glob := I.ok.glob
  blt := I.ok.blt
  above := hC
  inj := fun x y c h1 h2 => I.ok.inj x y c (CS.look I.ok h1) (CS.look I.ok h2)
  has := fun x hx => by
    have : (x, NameKind.free) ∈ scope.names := by
      rcases hx with hx | hx
      · exact relabel_free (env := X.env) CS.nocell hx (.inl rfl)
      · exact relabel_free (env := X.env) CS.nocell hx (.inr rfl)
    exact Option.isSome_iff_exists.mp (clGo_has (.inl this))
  cab := fun x c h _ => by cases (show false = true from h)
  hd := I.ok.hd
  frames := I.ok.frames
  stk := .inl rfl
  exf := fun b hb => ⟨Nat.ne_of_lt (Nat.lt_of_lt_of_le (hfl b hb) hC), fun x c e => (hf b hb).2.2.2.2.1 x c (CS.look I.ok e)⟩
  bs := I.bs
  bsz := Nat.le_trans I.ok.bsz I.sz
  noex := fun b o e hb => by
    rcases (hf b hb).2.2.2.1 with z | z
    · exact I.ok.noex b o e z
    · have q := (I.ok.bs b o e).1
      rw [z] at q; cases q
  exfs := fun b hb z => by
    rcases List.mem_cons.mp (I.stkSub b z) with q | q
    · exact (hf b hb).2.1 q
    · exact (hf b hb).2.2.1 q
  funs := I.stack
  frf := I.stkFree
theorem comp_inv {s₄ : Shared} {m : Str → Option Value} {pins' : List (Addr × Obj)} (I : Inv X pins σ H s) (CS : CompScope X scope ts cap js) (hf : ∀ b ∈ fp, FpOk X pins H b) (hfl : ∀ b ∈ fp, b < s.heap.objs.size) (hC : s.heap.objs.size ≤ C)
    (old : ∀ b o, s.heap.get? b = some o → s₄.heap.get? b = some o) (hn : s₄.heap.Ns C m) (hos : s₄.os = s.os) (hb : AllBare s₄.gens)
    (hp : ∀ p ∈ pins', s₄.heap.get? p.1 = some p.2 ∧ H p.1 = none ∧ p.1 ≠ C ∧ p.1 ∉ frs X.stack ∧ ∀ v, p.2.data ≠ .cell v) :
    Inv (cxComp X scope C fp (ts ++ cap) s H) pins' (List.replicate ts.length none ++ pick js σ) H s₄ where
  ok := comp_ok I CS hf hfl hC
  os := hos
  bare := hb
  base := Un.kept old
  loc := ⟨m, hn, fun i x v h1 h2 h3 => by
    by_cases hi : i < ts.length
    · rw [List.getElem?_append_left (by simpa using hi)] at h2
      rw [List.getElem?_replicate] at h2
      split at h2 <;> cases h2
    · have h1' : cap[i - ts.length]? = some x := by
        have := h1
        show cap[i - ts.length]? = some x
        rw [show (cxComp X scope C fp (ts ++ cap) s H).N = ts ++ cap from rfl, List.getElem?_append_right (by omega)] at this
        exact this
      rw [List.getElem?_append_right (by simpa using hi), List.length_replicate] at h2
      unfold pick at h2
      rw [List.getElem?_map] at h2
      cases hj : js[i - ts.length]? with
      | none => rw [hj] at h2; cases h2
      | some j =>
        rw [hj] at h2
        have h2' : (σ[j]?).join = some v := Option.some.inj h2
        have hσ : σ[j]? = some (some v) := by
          cases e : σ[j]? with
          | none => rw [e] at h2'; cases h2'
          | some o => rw [e] at h2'; rw [show o = some v from h2']
        have hN : X.N[j]? = some x := by
          have := congrArg (fun l => l[i - ts.length]?) CS.caps
          simp only [List.getElem?_map, h1', hj] at this
          exact (Option.some.inj this).symm
        have hfr := CS.capf x (List.mem_of_getElem? h1')
        have hk := CS.free _ (mem_of_look hfr) rfl
        obtain ⟨m0, hn0, hl⟩ := I.loc
        obtain ⟨u, r, l⟩ := hl j x v hN hσ (.inr hk)
        refine ⟨u, r, ?_⟩
        rcases l with ⟨k, _⟩ | ⟨k, c, e, z⟩
        · rcases hk with q | q <;> (rw [q] at k; cases k)
        · obtain ⟨c', e'⟩ := Option.isSome_iff_exists.mp (clGo_has (cells := X.env.cells) (acc := []) (.inl (mem_of_look hfr)))
          have e2 := CS.look I.ok e'
          have e3 : X.env.cells.lookup x = some c := e
          rw [e3] at e2
          cases e2
          obtain ⟨o, ho, hd⟩ := z
          exact .inr ⟨relabel_vis hfr, c, e', ⟨o, old _ _ ho, hd⟩⟩⟩
  cell := fun x c e => by
    obtain ⟨v, o, ho, hd⟩ := I.cell x c (CS.look I.ok e)
    exact ⟨v, o, old _ _ ho, hd⟩
  free := I.hok.fresh hC
  freeC := fun x c e => I.freeC x c (CS.look I.ok e)
  pin := fun p hp' => by
    rcases List.mem_append.mp hp' with z | z
    · obtain ⟨e, n, ne, nf, d⟩ := I.pin p (List.mem_append_left _ z)
      refine ⟨old _ _ e, n, Nat.ne_of_lt (Nat.lt_of_lt_of_le (Heap.lt_size e) hC), fun q => ?_, d⟩
      rcases List.mem_cons.mp (I.stkSub _ q) with q | q
      · exact ne q
      · exact nf q
    · exact hp p z
  hok := I.hok.kept old
  len := by
    show (List.replicate ts.length none ++ pick js σ).length = (ts ++ cap).length
    have := congrArg List.length CS.caps
    simp only [List.length_map] at this
    rw [List.length_append, List.length_append, List.length_replicate, pick, List.length_map, this]
end
end L2
end
section
set_option Elab.async false
set_option linter.all false
set_option maxRecDepth 100000
set_option maxHeartbeats 1000000
namespace L2
open PySem PySem.Spec PyProof.Rows
def tTrue : TT := fun _ H Q => Q true H
def CompW (J : It) (k : Nat) (js : List Nat) (g : TG) (tc : TT) (te : TE) (σ : St) (H1 : Hp) (Q : VK) : Prop :=
  ∃ W : Nat → Nat → List V → Hp → Prop, (∃ m, W 0 m [] H1) ∧ ∀ i m ys H, W i m ys H →
    (J.stop i H ∧ ys.length ≤ sizeLine ∧ ∀ p, H p = none → Q (.ref p) (upd H p (.lst ys))) ∨
    (J.go i H ∧ ys.length < sizeLine ∧ ∀ x H', J.yld i H x H' → g x (List.replicate k none ++ pick js σ) H' fun σ2 H2 => tc σ2 H2 fun b H3 => if b = true then te σ2 H3 fun y H4 => ∃ m', m' < m ∧ W (i + 1) m' (ys ++ [y]) H4 else ∃ m', m' < m ∧ W (i + 1) m' ys H3)
def tComp (wi : TI) (k : Nat) (js : List Nat) (g : TG) (tc : TT) (te : TE) : TE := fun σ H Q => wi σ H fun J H1 => CompW J k js g tc te σ H1 Q
def PTs (X : Cx) (ifs : List Expr) (t : TT) : Prop :=
  ∀ (pins : List (Addr × Obj)) (s : Shared) (σ : St) (H : Hp) (Q : Bool → Hp → Prop), Inv X pins σ H s → t σ H Q →
    wpAny (model X.prog X.w) X.A (forIn ifs true fun c r => if r = true then do let ok ← isTrue c X.env (eval c X.env); pure (ForInStep.yield ok) else pure (ForInStep.yield r)) (TP X pins σ Q) X.xe s
theorem pts_nil {X : Cx} : PTs X [] tTrue := fun _ _ _ H _ I h => wpAny_tests_nil ⟨H, I, h⟩
theorem pts_one {X : Cx} {c : Expr} {t : TT} (h : PT X c t) : PTs X [c] t := fun pins s σ H Q I hw => wpAny_tests_one (h pins s σ H Q I hw)
theorem loop_tests {prog : Program} {w : World} {A : Around} {R : Result → Shared → Prop} {s : Shared} {elt target iter : Expr} {ifs : List Expr} {scope : Scope} {pos : Pos} {it acc : Value} {env : Env} (I : Nat → Shared → Prop)
    (turn : ∀ n s, I n s → wpAny (model prog w) A (pyNext it) (fun r s₁ => match r with
      | none => R (.ok .next) s₁
      | some v => wpAny (model prog w) A (letOwnedTupleGo target it v) (fun _ s₁' => wpAny (model prog w) A (assign target env v) (fun _ s₂ =>
          wpAny (model prog w) A (forIn ifs true fun c r => if r = true then do let ok ← isTrue c env (eval c env); pure (ForInStep.yield ok) else pure (ForInStep.yield r)) (fun ok s₃ =>
            if ok = true then wpAny (model prog w) A (eval elt env) (fun x s₄ =>
              wpAny (model prog w) A (call (.builtin "list.append") [acc, x]) (fun _ s₅ => ∃ m, m < n ∧ I m s₅) (fun _ _ => False) s₄) (fun _ _ => False) s₃
            else ∃ m, m < n ∧ I m s₃) (fun _ _ => False) s₂) (fun _ _ => False) s₁') (fun _ _ => False) s₁) (fun _ _ => False) s)
    (n : Nat) (h : I n s) : codeAny (model prog w) A (.compLoop (.ListComp elt [⟨target, iter, ifs, 0⟩] scope pos) 0 it acc env) R s := by
  refine codeAny_loop rfl I (fun n s hI => ?_) n h
  show wpAny _ A ((compTurn (.ListComp elt [⟨target, iter, ifs, 0⟩] scope pos) 0 it acc env).onRaise (fun x => do noteFrame x env; theTreesLotGoes x)) _ _ s
  refine wpAny_noted ?_
  rw [compTurn_list]
  refine wpAny_bind (wpAny_standAt (wpAny_bind (wpAny_mono (turn n s hI) (fun r s₁ h₁ => ?_) fun _ _ h' => h'.elim)))
  cases r with
  | none => exact wpAny_pure h₁
  | some v =>
    refine wpAny_bind (wpAny_mono h₁ (fun _ s₁' h₁' => ?_) fun _ _ h' => h'.elim)
    refine wpAny_bind (wpAny_mono h₁' (fun _ s₂ h₂ => wpAny_bind (wpAny_mono h₂ (fun ok s₃ h₃ => ?_) fun _ _ h' => h'.elim)) fun _ _ h' => h'.elim)
    cases ok with
    | false => exact wpAny_pure ⟨rfl, h₃⟩
    | true =>
      exact wpAny_bind (wpAny_bind (wpAny_mono h₃ (fun x s₄ h₄ => wpAny_bind (wpAny_mono h₄ (fun _ s₅ h₅ => wpAny_pure (wpAny_pure ⟨rfl, h₅⟩)) fun _ _ h' => h'.elim)) fun _ _ h' => h'.elim))
abbrev lstO (its : List Value) (n : Nat) : Obj := { cls := .type "list", data := .seq its.toArray n }
section
variable {X : Cx} {pins : List (Addr × Obj)} {σ : St} {H : Hp} {s : Shared} {scope : Scope} {ts cap : List Str} {js : List Nat} {fp : List Addr} {C D : Addr}
theorem comp_back {s' : Shared} {σ' : St} {H' : Hp} {ys : List V} {its : List Value} {n : Nat} (I : Inv X pins σ H s) (hf : ∀ b ∈ fp, FpOk X pins H b)
    (hC : s.heap.objs.size ≤ C) (hD : s.heap.objs.size ≤ D) (I' : Inv (cxComp X scope C fp (ts ++ cap) s H) [(D, lstO its n)] σ' H' s') (hv : Vals ys its) (hz : ys.length ≤ sizeLine) : Inv X pins σ (upd H' D (.lst ys)) s' := by
  obtain ⟨hDg, hDn, hDC, hDs, hDd⟩ := I'.pin (D, lstO its n) (List.mem_append_right _ List.mem_cons_self)
  have nD : ∀ b o, s.heap.get? b = some o → b ≠ D := fun b o e => Nat.ne_of_lt (Nat.lt_of_lt_of_le (Heap.lt_size e) hD)
  have nDt : ∀ b o, H b = some o → b ≠ D := fun b o e => Nat.ne_of_lt (Nat.lt_of_lt_of_le (I.hok.lt e) hD)
  have u := I'.base
  refine I.call' (ch := fp) I'.os ⟨fun b o e n hb hx => u.keep b o e n hb hx, fun b o e n hb hx => u.slot b o e n hb hx, fun b o e n hx => ?_, fun b o e hx => u.there b o e hx, fun b xs e => ?_, fun b o xs e => ?_, fun b ps e => ?_⟩ ?_ I'.bare fun b hb => ?_
  · rw [upd_ne (nD b o e)]; exact u.free b o e n hx
  · rw [upd_ne (nDt b _ e)]; exact u.tups b xs e
  · rw [upd_ne (nDt b _ e)]; exact u.frzs b o xs e
  · rw [upd_ne (nDt b _ e)]; exact u.tbls b ps e
  · intro b o e
    by_cases hb : b = D
    · subst hb
      rw [upd_same] at e
      cases e
      exact ⟨hz, its, n, hv, hDg⟩
    · rw [upd_ne hb] at e
      refine (I'.hok b o e).stay (fun _ _ _ q => q) (fun c q => ?_) fun c xs q => ?_
      · by_cases hc : c = D
        · subst hc; rw [hDn] at q; cases q
        · rw [upd_ne hc]; exact q
      · by_cases hc : c = D
        · subst hc; rw [hDn] at q; cases q
        · rw [upd_ne hc]; exact q
  · obtain ⟨f0, f1, f2, f3, f4, f5⟩ := hf b hb
    exact ⟨f3, f1, f4, f5⟩
theorem comp_again {pins' : List (Addr × Obj)} {σ' : St} {H' : Hp} {s' : Shared} (I : Inv X pins σ H s) (CS : CompScope X scope ts cap js) (hf : ∀ b ∈ fp, FpOk X pins H b) (I' : Inv (cxComp X scope C fp (ts ++ cap) s H) pins' σ' H' s') :
    Inv (cxComp X scope C fp (ts ++ cap) s H) pins' (List.replicate ts.length none ++ pick js σ) H' s' := by
  refine ⟨I'.ok, I'.os, I'.bare, I'.base, ?_, I'.cell, I'.free, I'.freeC, I'.pin, I'.hok, ?_⟩
  · obtain ⟨m, hn, _⟩ := I'.loc
    refine ⟨m, hn, fun i x v h1 h2 h3 => ?_⟩
    by_cases hi : i < ts.length
    · rw [List.getElem?_append_left (by simpa using hi)] at h2
      rw [List.getElem?_replicate] at h2
      split at h2 <;> cases h2
    · have h1' : cap[i - ts.length]? = some x := by
        have := h1
        rw [show (cxComp X scope C fp (ts ++ cap) s H).N = ts ++ cap from rfl, List.getElem?_append_right (by omega)] at this
        exact this
      rw [List.getElem?_append_right (by simpa using hi), List.length_replicate] at h2
      unfold pick at h2
      rw [List.getElem?_map] at h2
      cases hj : js[i - ts.length]? with
      | none => rw [hj] at h2; cases h2
      | some j =>
        rw [hj] at h2
        have h2' : (σ[j]?).join = some v := Option.some.inj h2
        have hσ : σ[j]? = some (some v) := by
          cases e : σ[j]? with
          | none => rw [e] at h2'; cases h2'
          | some o => rw [e] at h2'; rw [show o = some v from h2']
        have hN : X.N[j]? = some x := by
          have := congrArg (fun l => l[i - ts.length]?) CS.caps
          simp only [List.getElem?_map, h1', hj] at this
          exact (Option.some.inj this).symm
        have hfr := CS.capf x (List.mem_of_getElem? h1')
        have hk := CS.free _ (mem_of_look hfr) rfl
        obtain ⟨m0, hn0, hl⟩ := I.loc
        obtain ⟨u, r, l⟩ := hl j x v hN hσ (.inr hk)
        refine ⟨u, r, ?_⟩
        rcases l with ⟨k, _⟩ | ⟨k, c, e, z⟩
        · rcases hk with q | q <;> (rw [q] at k; cases k)
        · obtain ⟨c', e'⟩ := Option.isSome_iff_exists.mp (clGo_has (cells := X.env.cells) (acc := []) (.inl (mem_of_look hfr)))
          have e2 := CS.look I.ok e'
          have e3 : X.env.cells.lookup x = some c := e
          rw [e3] at e2
          cases e2
          obtain ⟨o, ho, hd⟩ := z
          have nfp : c ∉ fp := fun q => (hf c q).2.2.2.2.1 x c e rfl
          obtain ⟨sl, hg⟩ := I'.base.any ho (I.freeC x c e) nfp
          exact .inr ⟨relabel_vis hfr, c, e', ⟨_, hg, hd⟩⟩
  · show (List.replicate ts.length none ++ pick js σ).length = (ts ++ cap).length
    have := congrArg List.length CS.caps
    simp only [List.length_map] at this
    rw [List.length_append, List.length_append, List.length_replicate, pick, List.length_map, this]
structure TurnAt (X : Cx) (tg : Expr) (J : It) (fp : List Addr) (it : Addr) (tn : Nat → Heap → Prop) : Prop where
  item : ∀ (i : Nat) (pins : List (Addr × Obj)) (s : Shared) (σ : St) (H : Hp) (E : Value → Shared → Prop), Inv X pins σ H s → (∀ b ∈ fp, FpOk X pins H b) → tn i s.heap → J.go i H →
    wpAny (model X.prog X.w) X.A (pyNext (.ref it)) (fun r s1 => ∃ u, r = some u ∧
      wpAny (model X.prog X.w) X.A (letOwnedTupleGo tg (.ref it) u) (fun _ s2 => ∃ x H', Inv X pins σ H' s2 ∧ RelV x u ∧ J.yld i H x H' ∧ tn (i + 1) s2.heap ∧ ∀ b ∈ fp, H' b = none) E s1) E s
  done : ∀ (i : Nat) (pins : List (Addr × Obj)) (s : Shared) (σ : St) (H : Hp) (E : Value → Shared → Prop), Inv X pins σ H s → (∀ b ∈ fp, FpOk X pins H b) → tn i s.heap → J.stop i H →
    wpAny (model X.prog X.w) X.A (pyNext (.ref it)) (fun r s1 => r = none ∧ Inv X pins σ H s1) E s
structure TurnOk (P : Program) (w : World) (fp : List Addr) (it : Addr) (tn : Nat → Heap → Prop) : Prop where
  obj : ∀ i h, tn i h → ∀ b ∈ fp, ∃ o, h.get? b = some o ∧ ∀ v, o.data ≠ .cell v
  keep : ∀ i h h', tn i h → (∀ b ∈ fp, ∀ o, h.get? b = some o → h'.get? b = some o) → tn i h'
  self : ∀ (A : Around) (i : Nat) (s : Shared) (Q : Value → Shared → Prop) (E : Value → Shared → Prop), tn i s.heap → Q (.ref it) s → wpAny (model P w) A (pyIter (.ref it)) Q E s
theorem comp_blockG {tg elt iter : Expr} {ifs : List Expr} {pos : Pos} {g : TG} {tc : TT} {te : TE} {J : It} {it : Addr} {tn : Nat → Heap → Prop} {W : Nat → Nat → List V → Hp → Prop} {m0 : Nat} {E : Value → Shared → Prop}
    {RR : Value → Addr → Result → Shared → Prop} {Fin : List V → Hp → Prop}
    (I : Inv X pins σ H s) (T : TurnOk X.prog X.w fp it tn) (TA : ∀ C, TurnAt (cxComp X scope C fp (ts ++ cap) s H) tg J fp it tn) (st : tn 0 s.heap) (hf : ∀ b ∈ fp, FpOk X pins H b) (CS : CompScope X scope ts cap js)
    (hg : ∀ C fp s H, PG (cxComp X scope C fp (ts ++ cap) s H) tg g) (ht : ∀ C fp s H, PTs (cxComp X scope C fp (ts ++ cap) s H) ifs tc) (he : ∀ C fp s H, PE (cxComp X scope C fp (ts ++ cap) s H) elt te)
    (w0 : W 0 m0 [] H)
    (turn : ∀ i m ys H, W i m ys H → (J.stop i H ∧ ys.length ≤ sizeLine ∧ Fin ys H) ∨ (J.go i H ∧ ys.length < sizeLine ∧ ∀ x H', J.yld i H x H' → g x (List.replicate ts.length none ++ pick js σ) H' fun σ2 H2 => tc σ2 H2 fun b H3 =>
      if b = true then te σ2 H3 fun y H4 => ∃ m', m' < m ∧ W (i + 1) m' (ys ++ [y]) H4 else ∃ m', m' < m ∧ W (i + 1) m' ys H3))
    (hRR : ∀ D C s' H' ys m, Inv X pins σ (upd H' D (.lst ys)) s' → s'.heap.Ns C m → s.heap.objs.size ≤ C → s.heap.objs.size ≤ D → C ≠ D → H' C = none → H' D = none → Fin ys H' → RR (.ref D) C (.ok .next) s') :
    wpAny (model X.prog X.w) X.A (newList []) (fun acc s₃ => wpAny (model X.prog X.w) X.A (newFunctionEnv scope X.env.globals (clGo X.env.cells scope.names []) [] X.env.qual none .none (some X.env)) (fun cenv s₄ =>
      codeAny (model X.prog X.w) X.A (.compStart (.ListComp elt [⟨tg, iter, ifs, 0⟩] scope pos) 0 (.ref it) acc { cenv with scope := relabel scope X.env }) (RR acc cenv.locals) s₄) E s₃) E s := by
  refine wpAny_newObj_type (wpAny_newFunctionEnv CS.nocell (by intro y hy; simp at hy) (fun h₁ hns₁ hsb₁ => ?_) CS.kind)
  dsimp only at hns₁ hsb₁ ⊢
  generalize hH2 : s.heap.push { cls := .type "list", dict := none, data := .seq ([] : List Value).toArray } = H2 at hns₁ hsb₁ ⊢
  have hCs : H2.objs.size = s.heap.objs.size + 1 := by rw [← hH2, Heap.size_push]
  have hDC : s.heap.objs.size ≠ H2.objs.size := by rw [hCs]; exact Nat.ne_of_lt (Nat.lt_succ_self _)
  have hCle : s.heap.objs.size ≤ H2.objs.size := by rw [hCs]; exact Nat.le_succ _
  have below : ∀ b, b < s.heap.objs.size → b ≠ H2.objs.size := fun b hb => by rw [hCs]; exact Nat.ne_of_lt (Nat.lt_succ_of_lt hb)
  have old : ∀ b o, s.heap.get? b = some o → h₁.get? b = some o := fun b o e => hsb₁.extBut b o (below b (Heap.lt_size e)) (Heap.get?_push_of_some _ (hH2 ▸ Heap.get?_push_of_some _ e))
  have hacc : h₁.get? s.heap.objs.size = some (lstO [] 0) := hsb₁.extBut _ _ hDC (Heap.get?_push_of_some _ (hH2 ▸ Heap.get?_push_size _ rfl))
  have hfl : ∀ b ∈ fp, b < s.heap.objs.size := fun b hb => by obtain ⟨o, e, _⟩ := T.obj _ _ st b hb; exact Heap.lt_size e
  have st₁ : tn 0 h₁ := T.keep _ _ _ st fun b _ o e => old b o e
  have hDstk : s.heap.objs.size ∉ frs X.stack := fun z => by
    obtain ⟨_, o, ho, _⟩ := I.stack.mem z
    exact absurd (Heap.lt_size ho) (Nat.lt_irrefl _)
  have I0 : Inv (cxComp X scope H2.objs.size fp (ts ++ cap) s H) [(s.heap.objs.size, lstO [] 0)] (List.replicate ts.length none ++ pick js σ) H { s with heap := h₁, toks := s.toks + ([] : List (Str × Value)).length } :=
    comp_inv I CS hf hfl hCle old hns₁ rfl I.bare fun p hp => by
      have e : p = (s.heap.objs.size, lstO [] 0) := by simpa using hp
      subst e
      exact ⟨hacc, I.hok.fresh (Nat.le_refl _), hDC, hDstk, fun v z => by cases z⟩
  have stat : ∀ {H' : Hp} {ys : List Value} {n : Nat}, (∀ b ∈ fp, H' b = none) → ∀ b ∈ fp, FpOk (cxComp X scope H2.objs.size fp (ts ++ cap) s H) [(s.heap.objs.size, lstO ys n)] H' b := fun {H' ys n} hn b hb => by
    obtain ⟨f0, f1, f2, f3, f4, f5⟩ := hf b hb
    refine ⟨hn b hb, below b (hfl b hb), ?_, .inl hb, fun x c e => f4 x c (CS.look I.ok e), fun p hp => ?_⟩
    · exact (comp_ok I CS hf hfl hCle).exfs b hb
    · rcases List.mem_append.mp hp with z | z
      · exact f5 p (List.mem_append_left _ z)
      · have e : p = (s.heap.objs.size, lstO ys n) := by simpa using z
        subst e
        intro q
        have q' : s.heap.objs.size = b := q
        exact absurd (hfl b hb) (by rw [← q']; exact Nat.lt_irrefl _)
  have loop : ∀ s₃ : Shared, s₃ = { s with heap := h₁, toks := s.toks + ([] : List (Str × Value)).length } →
      codeAny (model X.prog X.w) X.A (.compLoop (.ListComp elt [⟨tg, iter, ifs, 0⟩] scope pos) 0 (.ref it) (.ref s.heap.objs.size) (compEnvC scope (clGo X.env.cells scope.names []) H2.objs.size X.env))
        (RR (.ref s.heap.objs.size) H2.objs.size) s₃ := by
    rintro s₃ rfl
    refine loop_tests (fun k s' => ∃ i H' ys its n, Inv (cxComp X scope H2.objs.size fp (ts ++ cap) s H) [(s.heap.objs.size, lstO its n)] (List.replicate ts.length none ++ pick js σ) H' s' ∧ Vals ys its ∧ tn i s'.heap ∧ (∀ b ∈ fp, H' b = none) ∧ W i k ys H') ?_ m0
      ⟨0, H, [], [], 0, I0, .nil, st₁, fun b hb => (hf b hb).1, w0⟩
    rintro k s3 ⟨i, H3, ys, its, n, I3, v3, st3, fr3, w3⟩
    rcases turn i k ys H3 w3 with ⟨stop, hz, fin⟩ | ⟨go, hz, step⟩
    · refine thn ((TA _).done i _ s3 _ H3 _ I3 (stat fr3) st3 stop) fun r s4 ⟨hr, I4⟩ => ?_
      subst hr
      obtain ⟨m4, hn4, _⟩ := I4.loc
      exact hRR _ _ s4 H3 ys m4 (comp_back I hf hCle (Nat.le_refl _) I4 v3 hz) hn4 hCle (Nat.le_refl _) (Ne.symm hDC) I4.free (I4.pin (s.heap.objs.size, lstO its n) (List.mem_append_right _ List.mem_cons_self)).2.1 fin
    · refine thn ((TA _).item i _ s3 _ H3 _ I3 (stat fr3) st3 go) fun r s4 ⟨u, hr, h4⟩ => ?_
      subst hr
      refine thn h4 fun _ s5 ⟨x, H5, I5, r5, y5, st5, fr5⟩ => ?_
      have I5' := I5.pinned (stat fr5) (T.obj _ _ st5)
      refine thn (hg _ _ _ _ _ s5 _ H5 x u _ I5' r5 (step x H5 y5)) fun _ s6 ⟨σ6, H6, I6, q6⟩ => ?_
      refine thn (ht _ _ _ _ _ s6 σ6 H6 _ I6 q6) fun ok s7 ⟨H7, I7, q7⟩ => ?_
      have pinned : ∀ {σ' : St} {H' : Hp} {s' : Shared}, Inv (cxComp X scope H2.objs.size fp (ts ++ cap) s H) ([(s.heap.objs.size, lstO its n)] ++ pinsAt fp s5.heap) σ' H' s' → tn (i + 1) s'.heap ∧ ∀ b ∈ fp, H' b = none := fun {σ' H' s'} J => by
        refine ⟨T.keep _ _ _ st5 fun b hb o e => (J.pin (b, o) (List.mem_append_right _ (List.mem_append_right _ (mem_pinsAt hb e)))).1, fun b hb => ?_⟩
        obtain ⟨o, e, d⟩ := T.obj _ _ st5 b hb
        exact (J.pin (b, o) (List.mem_append_right _ (List.mem_append_right _ (mem_pinsAt hb e)))).2.1
      cases ok with
      | false =>
        rw [if_neg Bool.false_ne_true] at q7 ⊢
        obtain ⟨m', hm, w7⟩ := q7
        obtain ⟨st7, fr7⟩ := pinned I7
        exact ⟨m', hm, i + 1, H7, ys, its, n, comp_again I CS hf I7.unpinned, v3, st7, fr7, w7⟩
      | true =>
        rw [if_pos rfl] at q7 ⊢
        refine thn (he _ _ _ _ _ s7 σ6 H7 _ I7 q7) fun yv s8 ⟨y, H8, I8, r8, m', hm, w8⟩ => ?_
        obtain ⟨st8, fr8⟩ := pinned I8
        have I8' := comp_again I CS hf I8.unpinned
        obtain ⟨hDg, hDn, hDC', hDs, hDd⟩ := I8'.pin (s.heap.objs.size, lstO its n) (List.mem_append_right _ List.mem_cons_self)
        have hl := v3.length
        refine append_at (hsz := by rw [List.size_toArray]; omega) hDg fun h9 hs9 hD9 => ?_
        have tracked : ∀ b o, b ≠ s.heap.objs.size → s8.heap.get? b = some o → h9.get? b = some o := fun b o hb e => hs9.extBut b o hb e
        have I9 : Inv (cxComp X scope H2.objs.size fp (ts ++ cap) s H) [(s.heap.objs.size, lstO (its ++ [yv]) (n + 1))] (List.replicate ts.length none ++ pick js σ) H8 { s8 with heap := h9 } := by
          have J0 : Inv (cxComp X scope H2.objs.size fp (ts ++ cap) s H) [] (List.replicate ts.length none ++ pick js σ) H8 s8 := I8'.pins_of (fun p hp => absurd hp (by simp))
          have J : Inv (cxComp X scope H2.objs.size fp (ts ++ cap) s H) [] (List.replicate ts.length none ++ pick js σ) H8 { s8 with heap := h9, toks := s8.toks } := J0.turned (it := s.heap.objs.size) tracked hDn hDC' (.inr (Heap.get?_none_of_le (Nat.le_refl _))) (fun x c e q => by
            obtain ⟨v, o, ho, _⟩ := I.cell x c (CS.look I.ok e)
            rw [q] at ho
            exact absurd (Heap.lt_size ho) (Nat.lt_irrefl _)) (fun p hp q => by
              rw [List.append_nil] at hp
              obtain ⟨e, _⟩ := I.pin p (List.mem_append_left _ hp)
              rw [q] at e
              exact absurd (Heap.lt_size e) (Nat.lt_irrefl _))
          refine J.pins_of fun p hp => ?_
          have e : p = (s.heap.objs.size, lstO (its ++ [yv]) (n + 1)) := by simpa using hp
          subst e
          refine ⟨?_, hDn, hDC', hDs, fun v z => by cases z⟩
          show h9.get? s.heap.objs.size = _
          rw [hD9]
          simp [lstO, List.push_toArray]
        have st9 : tn (i + 1) h9 := T.keep _ _ _ st8 fun b hb o e => tracked b o (Nat.ne_of_lt (hfl b hb)) e
        exact ⟨m', hm, i + 1, H8, ys ++ [y], its ++ [yv], n + 1, I9, v3.append (.cons r8 .nil), st9, fr8, w8⟩
  exact codeAny_compStart_list (loop _ rfl) (T.self _ _ _ _ _ st₁ (loop _ rfl))
theorem comp_block {tg elt iter : Expr} {ifs : List Expr} {pos : Pos} {g : TG} {tc : TT} {te : TE} {J : It} {it : Addr} {tn : Nat → Heap → Prop} {W : Nat → Nat → List V → Hp → Prop} {m0 : Nat} {E : Value → Shared → Prop}
    {RR : Value → Addr → Result → Shared → Prop} {Fin : List V → Hp → Prop}
    (I : Inv X pins σ H s) (hc : X.calm = true) (T : Turn X.prog X.w X.K tg J fp it tn) (st : tn 0 s.heap) (hf : ∀ b ∈ fp, FpOk X pins H b) (CS : CompScope X scope ts cap js)
    (hg : ∀ C fp s H, PG (cxComp X scope C fp (ts ++ cap) s H) tg g) (ht : ∀ C fp s H, PTs (cxComp X scope C fp (ts ++ cap) s H) ifs tc) (he : ∀ C fp s H, PE (cxComp X scope C fp (ts ++ cap) s H) elt te)
    (w0 : W 0 m0 [] H)
    (turn : ∀ i m ys H, W i m ys H → (J.stop i H ∧ ys.length ≤ sizeLine ∧ Fin ys H) ∨ (J.go i H ∧ ys.length < sizeLine ∧ ∀ x H', J.yld i H x H' → g x (List.replicate ts.length none ++ pick js σ) H' fun σ2 H2 => tc σ2 H2 fun b H3 =>
      if b = true then te σ2 H3 fun y H4 => ∃ m', m' < m ∧ W (i + 1) m' (ys ++ [y]) H4 else ∃ m', m' < m ∧ W (i + 1) m' ys H3))
    (hRR : ∀ D C s' H' ys m, Inv X pins σ (upd H' D (.lst ys)) s' → s'.heap.Ns C m → s.heap.objs.size ≤ C → s.heap.objs.size ≤ D → C ≠ D → H' C = none → H' D = none → Fin ys H' → RR (.ref D) C (.ok .next) s') :
    wpAny (model X.prog X.w) X.A (newList []) (fun acc s₃ => wpAny (model X.prog X.w) X.A (newFunctionEnv scope X.env.globals (clGo X.env.cells scope.names []) [] X.env.qual none .none (some X.env)) (fun cenv s₄ =>
      codeAny (model X.prog X.w) X.A (.compStart (.ListComp elt [⟨tg, iter, ifs, 0⟩] scope pos) 0 (.ref it) acc { cenv with scope := relabel scope X.env }) (RR acc cenv.locals) s₄) E s₃) E s :=
  comp_blockG I ⟨T.obj, T.keep, T.self⟩ (fun C => ⟨T.item (cxComp X scope C fp (ts ++ cap) s H) rfl rfl rfl hc, T.done (cxComp X scope C fp (ts ++ cap) s H) rfl rfl rfl hc⟩) st hf CS hg ht he w0 turn hRR
end
end L2
end
section
set_option Elab.async false
set_option linter.all false
set_option maxRecDepth 100000
set_option maxHeartbeats 1000000
namespace L2
open PySem PySem.Spec PyProof.Rows
section
variable {X : Cx} {scope : Scope} {ts cap : List Str} {js : List Nat} {tg elt iter : Expr} {ifs : List Expr} {pos : Pos} {wi : TI} {g : TG} {tc : TT} {te : TE}
theorem comp_gone {pins : List (Addr × Obj)} {σ : St} {H : Hp} {s : Shared} {C : Addr} {h' : Heap} {n0 : Nat} (I : Inv X pins σ H s) (hC0 : X.s₀.heap.get? C = none) (hCL : X.env.locals ≠ C) (hcell : ∀ x c, X.env.cells.lookup x = some c → c ≠ C) (hpin : ∀ p ∈ X.pn ++ pins, p.1 ≠ C) (hn : H C = none) (hs : Heap.SameBut C s.heap h') : Inv X pins σ H { s with heap := h' } :=
  I.turned (t' := s.toks) (fun b o hb e => hs.extBut b o hb e) hn (Ne.symm hCL) (.inr hC0) hcell hpin
theorem pe_comp (hc : X.calm = true) (CS : CompScope X scope ts cap js) (hi : PI X tg iter wi) (hg : ∀ C fp s H, PG (cxComp X scope C fp (ts ++ cap) s H) tg g)
    (ht : ∀ C fp s H, PTs (cxComp X scope C fp (ts ++ cap) s H) ifs tc) (he : ∀ C fp s H, PE (cxComp X scope C fp (ts ++ cap) s H) elt te)
    (hs : ∀ x, foldedSetIterable iter X.env x = pure x := by intro _; rfl) : PE X (.ListComp elt [⟨tg, iter, ifs, 0⟩] scope pos) (tComp wi ts.length js g tc te) := by
  intro pins s σ H Q I h
  rw [eval_ListComp]
  refine wpAny_comprehension_free (use := none) rfl hs (closureFor_eq (CS.cells I.ok)) CS.kind CS.names (thn (hi pins s σ H _ I h) fun v s1 h1 => thn h1 fun itv s2 h2 => ?_)
  obtain ⟨it, fp, tn, J, H2, e, I2, T, st2, f2, W, ⟨m0, w0⟩, turn⟩ := h2
  subst e
  refine comp_block (RR := fun acc C => compPost (model X.prog X.w) X.A X.xe none (EP X pins σ Q) acc C) I2 hc T st2 f2 CS hg ht he w0 turn ?_
  intro D C s' H' ys m I' hn hC hD hCD hHC hHD fin
  have szL := I2.lt
  have low : ∀ b o, s2.heap.get? b = some o → b ≠ C := fun b o e => Nat.ne_of_lt (Nat.lt_of_lt_of_le (Heap.lt_size e) hC)
  refine ⟨m, hn, fun h' hs' => ⟨.ref D, _, comp_gone (n0 := 0) I' (Heap.get?_none_of_le (Nat.le_trans I2.sz hC)) (Nat.ne_of_lt (Nat.lt_of_lt_of_le szL hC)) (fun x c e => ?_) (fun p hp => ?_) (by rw [upd_ne hCD]; exact hHC) hs', rfl, fin D hHD⟩⟩
  · obtain ⟨v, o, ho, _⟩ := I2.cell x c e
    exact low c o ho
  · exact low _ _ (I2.pin p hp).1
def tAsgC (te : TE) (i : Nat) : TS := fun D σ H => te σ H fun x H1 => D.nx (σ.set i (some x)) H1
theorem ps_comp {i : Nat} {y : Str} {py spos : Pos} (hc : X.calm = true) (CS : CompScope X scope ts cap js) (hi : PI X tg iter wi) (hg : ∀ C fp s H, PG (cxComp X scope C fp (ts ++ cap) s H) tg g)
    (ht : ∀ C fp s H, PTs (cxComp X scope C fp (ts ++ cap) s H) ifs tc) (he : ∀ C fp s H, PE (cxComp X scope C fp (ts ++ cap) s H) elt te)
    (hN : X.N.Nodup) (hy : X.N[i]? = some y) (hx : Loc X.env.scope y) (hsw : swapsWith (.ListComp elt [⟨tg, iter, ifs, 0⟩] scope pos) (some (.Name y py)) spos.line X.env = pure true)
    (hs : ∀ x, foldedSetIterable iter X.env x = pure x := by intro _; rfl) (hf : X.fn y = true ∨ X.env.scope.names.lookup y = some .local := by first | exact .inl rfl | exact .inr rfl | assumption) :
    PS X (.Assign [.Name y py] (.ListComp elt [⟨tg, iter, ifs, 0⟩] scope pos) spos) (tAsgC (tComp wi ts.length js g tc te) i) := by
  intro pins s σ H D I h
  rw [exec_Assign_Name_used _ _ _ _ hsw]
  refine wpAny_bind (wpAny_standAt (wpAny_bind ?_))
  show wpAny _ X.A (do let _ ← comprehension (.ListComp elt [⟨tg, iter, ifs, 0⟩] scope pos) scope X.env _ (newList []) false (eval iter X.env) (some (assign (.Name y py) X.env))) _ _ s
  refine wpAny_bind (wpAny_mono (wpAny_comprehension_free (use := some (assign (.Name y py) X.env)) (Q := fun _ s' => SP X pins D .next s') rfl hs (closureFor_eq (CS.cells I.ok)) CS.kind CS.names
    (thn (hi pins s σ H _ I h) fun v s1 h1 => thn h1 fun itv s2 h2 => ?_)) (fun _ s' hq => wpAny_pure (wpAny_pure hq)) fun _ _ e => e)
  obtain ⟨it, fp, tn, J, H2, e, I2, T, st2, f2, W, ⟨m0, w0⟩, turn⟩ := h2
  subst e
  refine comp_block (RR := fun acc C => compPost (model X.prog X.w) X.A X.xe (some (assign (.Name y py) X.env)) (fun _ s' => SP X pins D .next s') acc C) I2 hc T st2 f2 CS hg ht he w0 turn ?_
  intro D' C s' H' ys m I' hn hC hD hCD hHC hHD fin
  have szL := I2.lt
  have low : ∀ b o, s2.heap.get? b = some o → b ≠ C := fun b o e => Nat.ne_of_lt (Nat.lt_of_lt_of_le (Heap.lt_size e) hC)
  have hCL : X.env.locals ≠ C := Nat.ne_of_lt (Nat.lt_of_lt_of_le szL hC)
  have hcell : ∀ x c, X.env.cells.lookup x = some c → c ≠ C := fun x c e => by
    obtain ⟨v, o, ho, _⟩ := I2.cell x c e
    exact low c o ho
  show wpAny _ X.A (assign (.Name y py) X.env (.ref D')) _ _ _
  refine wpAny_assign_Name (store_ok2 (v := .ref D') I' hN hy hx rfl (fun s'' I'' hch => ?_) hf)
  obtain ⟨a, hsb, ha⟩ := hch
  have hCa : C ≠ a := by
    rcases ha with z | z
    · rw [z]; exact Ne.symm hCL
    · exact Ne.symm (hcell _ _ z)
  refine ⟨m, hn.sameBut hsb hCa, fun h' hs' => ⟨_, _, comp_gone (n0 := 0) I'' (Heap.get?_none_of_le (Nat.le_trans I2.sz hC)) hCL hcell (fun p hp => low _ _ (I2.pin p hp).1) (by rw [upd_ne hCD]; exact hHC) hs', fin D' hHD⟩⟩
end
end L2
end
section
set_option Elab.async false
set_option linter.all false
set_option maxRecDepth 100000
set_option maxHeartbeats 1000000
namespace L2
open PySem PySem.Spec PyProof.Rows
mutual
inductive DatOf (K : PySem.W.Frag) (H : Hp) : V → PyData → Prop
  | non : DatOf K H .non .none
  | bl (b : Bool) : DatOf K H (.bl b) (.bool b)
  | int (i : Int) : DatOf K H (.int i) (.int i)
  | str (x : Str) : DatOf K H (.str x) (.str x)
  | lst {a : Addr} {xs : List V} {ds : List PyData} : SqL K H a xs → DatAll K H xs ds → DatOf K H (.ref a) (.list ds)
  | tup {a : Addr} {xs : List V} {ds : List PyData} : SqT K H a xs → DatAll K H xs ds → DatOf K H (.ref a) (.tuple ds)
inductive DatAll (K : PySem.W.Frag) (H : Hp) : List V → List PyData → Prop
  | nil : DatAll K H [] []
  | cons {v : V} {d : PyData} {vs : List V} {ds : List PyData} : DatOf K H v d → DatAll K H vs ds → DatAll K H (v :: vs) (d :: ds)
end
theorem Same.seqT {K : PySem.W.Frag} {H H' : Hp} {a : Addr} {xs : List V} (e : Same H H') (h : SqT K H a xs) : SqT K H' a xs := by
  rcases h with (h | ⟨o, h⟩) | h
  · exact .inl (.inl (e _ _ h))
  · exact .inl (.inr ⟨o, e _ _ h⟩)
  · exact .inr h
theorem same_new {H : Hp} {p : Addr} (h : H p = none) (o : HO) : Same H (upd H p o) := fun b u q => by rw [upd_ne (ne_of_none q h)]; exact q
mutual
theorem DatOf.mono {K : PySem.W.Frag} {H H' : Hp} (e : Same H H') : ∀ {v : V} {d : PyData}, DatOf K H v d → DatOf K H' v d
  | _, _, .non => .non
  | _, _, .bl b => .bl b
  | _, _, .int i => .int i
  | _, _, .str x => .str x
  | _, _, .lst h r => .lst (e.seq h) (DatAll.mono e r)
  | _, _, .tup h r => .tup (e.seqT h) (DatAll.mono e r)
theorem DatAll.mono {K : PySem.W.Frag} {H H' : Hp} (e : Same H H') : ∀ {vs : List V} {ds : List PyData}, DatAll K H vs ds → DatAll K H' vs ds
  | _, _, .nil => .nil
  | _, _, .cons h r => .cons (DatOf.mono e h) (DatAll.mono e r)
end
theorem DatAll.ints {K : PySem.W.Frag} {H : Hp} : ∀ (ns : List Int), DatAll K H (ns.map V.int) (ns.map PyData.int)
  | [] => .nil
  | n :: r => .cons (.int n) (DatAll.ints r)
section
variable {X : Cx} {pins : List (Addr × Obj)} {σ : St} {H : Hp} {s : Shared}
mutual
theorem Inv.reads (I : Inv X pins σ H s) : ∀ {v : V} {d : PyData} {u : Value}, DatOf X.K H v d → RelV v u → ∃ as, Reads s.heap u d as
  | _, _, _, .non, r => by cases r; exact ⟨_, .none⟩
  | _, _, _, .bl b, r => by cases r; exact ⟨_, .bool b⟩
  | _, _, _, .int i, r => by obtain ⟨t, rfl⟩ := r; exact ⟨_, .int i t⟩
  | _, _, _, .str x, r => by obtain ⟨t, rfl⟩ := r; exact ⟨_, .str x t⟩
  | _, _, _, .lst h q, r => by
    cases r
    obtain ⟨its, rv, ⟨o, n, e, c, dd, d⟩, hz⟩ := I.list h
    obtain ⟨as, z⟩ := I.readsAll q rv
    exact ⟨_, .list e c d (by simpa using z)⟩
  | _, _, _, .tup h q, r => by
    cases r
    obtain ⟨its, rv, ⟨o, e, c, n, d⟩, hz⟩ := I.tuple h
    obtain ⟨as, z⟩ := I.readsAll q rv
    exact ⟨_, .tuple e c d (by simpa using z)⟩
theorem Inv.readsAll (I : Inv X pins σ H s) : ∀ {vs : List V} {ds : List PyData} {us : List Value}, DatAll X.K H vs ds → Vals vs us → ∃ as, ReadsAll s.heap us ds as
  | _, _, _, .nil, .nil => ⟨_, .nil⟩
  | _, _, _, .cons h q, .cons r t => by
    obtain ⟨as, z⟩ := I.reads h r
    obtain ⟨bs, y⟩ := I.readsAll q t
    exact ⟨_, .cons z y⟩
end
def rEqD (K : PySem.W.Frag) (neg : Bool) : R2 := fun x y H Q => ∃ d e, DatOf K H x d ∧ DatOf K H y e ∧ d.canLay0 = true ∧ e.canLay0 = true ∧ d.depth ≤ 60 ∧ Q (.bl (if neg then !PyData.eqv d e else PyData.eqv d e)) H
theorem op_neD (hu : X.A.units + 64 < cLine) : OpR X (compareOp .NotEq) (rEqD X.K true) := by
  intro pins s σ H x y v u Q I rx ry h
  obtain ⟨d, e, hd, he, c1, c2, hp, q⟩ := h
  obtain ⟨as, ra⟩ := I.reads hd rx
  obtain ⟨bs, rb⟩ := I.reads he ry
  exact SeqAt.compareNe_reads ra rb c1 c2 (by have := Nat.min_le_left d.depth e.depth; omega) ⟨.bl _, H, I, rfl, q⟩
end
def CBig (i j : Int) : Prop := Builtin.Int.intBits i ≤ 2 ^ 20 ∧ Builtin.Int.intBits j ≤ 2 ^ 20
theorem op_mulB {X : Cx} : OpR X (binaryOp .Mult) (rI CBig fun i j => .int (i * j)) := opI fun _ _ _ _ _ _ _ hc q => mul_int q (IntMulOk.of_bits hc.1 hc.2)
def Its (x : Str) : It := ⟨fun i _ => i < x.cps.size, fun i H v H' => H' = H ∧ ∃ c, x.cps[i]? = some c ∧ v = .str ⟨#[c]⟩, fun i _ => x.cps.size ≤ i⟩
theorem turn_str {P : Program} {w : World} {K : PySem.W.Frag} {tg : Expr} (it : Addr) (x : Str) (t : Tok) : Turn P w K tg (Its x) [it] it (fun i h => h.IsStrIter it "str_ascii_iterator" x t i) where
  mem := by simp
  obj := fun i h st b hb => by
    have e : b = it := by simpa using hb
    subst e
    obtain ⟨o, e, c, d⟩ := st
    exact ⟨o, e, fun v z => by rw [d] at z; cases z⟩
  keep := fun i h h' st k => by
    obtain ⟨o, e, r⟩ := st
    exact ⟨o, k it (by simp) o e, r⟩
  item := by
    intro X hP hw hK hc i pins s σ H E I hf st hg
    subst hP hw hK
    obtain ⟨f0, f1, f2, f3, f4, f5⟩ := hf it (by simp)
    have hi : i < x.cps.size := hg
    refine wpAny_pyNext_ascii_item st (c := x.cps[i]) (by simp [hi]) fun h' st' sb => ?_
    have I1 : Inv X pins σ H { s with heap := h', toks := s.toks + 1 } := I.turned (fun b o hb e => (sb.2 b hb).trans e) f0 f1 f3 f4 f5
    obtain ⟨o, e, c, d⟩ := id st'
    exact ⟨_, rfl, go_of (s := { s with heap := h', toks := s.toks + 1 }) e c d (by decide) ⟨.str ⟨#[x.cps[i]]⟩, H, I1, ⟨_, rfl⟩, ⟨rfl, _, by simp [hi], rfl⟩, st', fun b hb => (hf b hb).1⟩⟩
  done := by
    intro X hP hw hK hc i pins s σ H E I hf st hg
    subst hP hw hK
    obtain ⟨f0, f1, f2, f3, f4, f5⟩ := hf it (by simp)
    have hi : x.cps.size ≤ i := hg
    exact wpAny_pyNext_ascii_end (I.ok.hd hc) st (by simp; omega) fun h' eb => ⟨rfl, I.turned (t' := s.toks) (fun b o hb e => eb b o hb e) f0 f1 f3 f4 f5⟩
  self := fun A i s Q E st h => by
    obtain ⟨o, e, c, d⟩ := id st
    refine wpAny_pyIter_slot (Heap.IsStrIter.typeIs st) F.slot_str_ascii_iterator_iter (wpAny_call_entry F.slot_str_ascii_iterator_iter (Heap.IsStrIter.typeIs st) F.entry_str_ascii_iterator_iter ?_ (F.args_str_ascii_iterator_iter_1 _))
    show wpAny _ _ (ret (.ref it)) _ _ s
    exact wpAny_pure ⟨_, rfl, "str_ascii_iterator", _, Heap.IsStrIter.typeIs st, F.slot_str_ascii_iterator_next.lookup, h⟩
end L2
end
section
set_option Elab.async false
set_option linter.all false
set_option maxRecDepth 100000
set_option maxHeartbeats 1000000
namespace L2
open PySem PySem.Spec PyProof.Rows
section
variable {X : Cx} {tg : Expr}
def iStr (tl : TE) : TI := fun σ H R => tl σ H fun x H1 => ∃ z, x = .str z ∧ z.cps.all (· < 128) = true ∧ R (Its z) H1
theorem pi_str {l : Expr} {tl : TE} (hl : PE X l tl) : PI X tg l (iStr tl) := by
  intro pins s σ H R I h
  refine thn (hl pins s σ H _ I h) fun v s1 ⟨x, H1, I1, r1, q1⟩ => ?_
  obtain ⟨z, e, ha, q⟩ := q1
  subst e
  obtain ⟨t, rfl⟩ := r1
  refine wpAny_pyIter_ascii ha ?_
  refine ⟨s1.heap.objs.size, [s1.heap.objs.size], _, _, H1, rfl, I1.kept (t' := s1.toks) fun b o e => Heap.get?_push_of_some _ e, turn_str _ z t, ⟨_, Heap.get?_push_size _ rfl, rfl, rfl⟩, fun b hb => ?_, q⟩
  have e : b = s1.heap.objs.size := by simpa using hb
  subst e
  exact I1.fpOk (Nat.le_refl _) (I1.hok.fresh (Nat.le_refl _))
def Nx (n i : Nat) (P : Nat → List V → Hp → Prop) (ys : List V) (H : Hp) : Prop := ∃ m', m' < n - i ∧ (m' = n - (i + 1) ∧ i + 1 ≤ n ∧ P (i + 1) ys H)
theorem Nx.mk {n i : Nat} {P : Nat → List V → Hp → Prop} {ys : List V} {H : Hp} (hi : i < n) (h : P (i + 1) ys H) : Nx n i P ys H := ⟨n - (i + 1), by omega, rfl, hi, h⟩
theorem comp_by {J : It} {n k : Nat} {js : List Nat} {g : TG} {tc : TT} {te : TE} {σ : St} {H : Hp} {Q : VK} (P : Nat → List V → Hp → Prop) (h0 : P 0 [] H) (hz : ∀ i ys H, i ≤ n → P i ys H → ys.length ≤ i) (hn : n ≤ sizeLine)
    (hgo : ∀ i ys H, i < n → P i ys H → J.go i H) (hstop : ∀ ys H, P n ys H → J.stop n H)
    (hs : ∀ i ys H x H', i < n → P i ys H → J.yld i H x H' → g x (List.replicate k none ++ pick js σ) H' fun σ2 H2 => tc σ2 H2 fun b H3 => if b = true then te σ2 H3 fun y H4 => Nx n i P (ys ++ [y]) H4 else Nx n i P ys H3)
    (hd : ∀ ys H, P n ys H → ∀ p, H p = none → Q (.ref p) (upd H p (.lst ys))) :
    CompW J k js g tc te σ H Q := by
  refine ⟨fun i m ys H => m = n - i ∧ i ≤ n ∧ P i ys H, ⟨n, by simp, Nat.zero_le _, h0⟩, ?_⟩
  rintro i m ys H ⟨rfl, hi, p⟩
  have hy := hz i ys H hi p
  by_cases hlt : i < n
  · exact .inr ⟨hgo i ys H hlt p, by omega, fun x H' y => hs i ys H x H' hlt p y⟩
  · have e : i = n := by omega
    subst e
    exact .inl ⟨hstop ys H p, by omega, hd ys H p⟩
theorem compR {lo : Int} {n k : Nat} {js : List Nat} {g : TG} {tc : TT} {te : TE} {σ : St} {H : Hp} {Q : VK} (P : Nat → List V → Hp → Prop) (h0 : P 0 [] H) (hz : ∀ i ys H, i ≤ n → P i ys H → ys.length ≤ i) (hn : n ≤ sizeLine)
    (hs : ∀ i ys H, i < n → P i ys H → g (.int (lo + i)) (List.replicate k none ++ pick js σ) H fun σ2 H2 => tc σ2 H2 fun b H3 => if b = true then te σ2 H3 fun y H4 => Nx n i P (ys ++ [y]) H4 else Nx n i P ys H3)
    (hd : ∀ ys H, P n ys H → ∀ p, H p = none → Q (.ref p) (upd H p (.lst ys))) :
    CompW (Itr lo n) k js g tc te σ H Q :=
  comp_by P h0 hz hn (fun _ _ _ h _ => h) (fun _ _ _ => Nat.le_refl _) (fun i ys H x H' hi p y => by obtain ⟨e, y⟩ := y; subst e y; exact hs i ys _ hi p) hd
theorem compL {K : PySem.W.Frag} {a : Addr} {xs : List V} {k : Nat} {js : List Nat} {g : TG} {tc : TT} {te : TE} {σ : St} {H : Hp} {Q : VK} (P : Nat → List V → Hp → Prop) (h0 : P 0 [] H) (hz : ∀ i ys H, i ≤ xs.length → P i ys H → ys.length ≤ i) (hn : xs.length ≤ sizeLine)
    (hl : ∀ i ys H, i ≤ xs.length → P i ys H → SqL K H a xs)
    (hs : ∀ i x ys H, xs[i]? = some x → P i ys H → g x (List.replicate k none ++ pick js σ) H fun σ2 H2 => tc σ2 H2 fun b H3 => if b = true then te σ2 H3 fun y H4 => Nx xs.length i P (ys ++ [y]) H4 else Nx xs.length i P ys H3)
    (hd : ∀ ys H, P xs.length ys H → ∀ p, H p = none → Q (.ref p) (upd H p (.lst ys))) :
    CompW (Itl K a) k js g tc te σ H Q :=
  comp_by P h0 hz hn (fun i ys H hi p => ⟨xs, xs[i], hl i ys H (Nat.le_of_lt hi) p, by simp [hi]⟩) (fun ys H p => ⟨xs, hl _ ys H (Nat.le_refl _) p, Nat.le_refl _⟩)
    (fun i ys H x H' hi p y => by obtain ⟨e, y⟩ := y; subst e; exact hs i x ys _ (y xs (hl i ys _ (Nat.le_of_lt hi) p)) p) hd
theorem compT {K : PySem.W.Frag} {a : Addr} {xs : List V} {k : Nat} {js : List Nat} {g : TG} {tc : TT} {te : TE} {σ : St} {H : Hp} {Q : VK} (P : Nat → List V → Hp → Prop) (h0 : P 0 [] H) (hz : ∀ i ys H, i ≤ xs.length → P i ys H → ys.length ≤ i) (hn : xs.length ≤ sizeLine)
    (hl : ∀ i ys H, i ≤ xs.length → P i ys H → SqT K H a xs)
    (hs : ∀ i x ys H, xs[i]? = some x → P i ys H → g x (List.replicate k none ++ pick js σ) H fun σ2 H2 => tc σ2 H2 fun b H3 => if b = true then te σ2 H3 fun y H4 => Nx xs.length i P (ys ++ [y]) H4 else Nx xs.length i P ys H3)
    (hd : ∀ ys H, P xs.length ys H → ∀ p, H p = none → Q (.ref p) (upd H p (.lst ys))) :
    CompW (Itt K a) k js g tc te σ H Q :=
  comp_by P h0 hz hn (fun i ys H hi p => ⟨xs, xs[i], hl i ys H (Nat.le_of_lt hi) p, by simp [hi]⟩) (fun ys H p => ⟨xs, hl _ ys H (Nat.le_refl _) p, Nat.le_refl _⟩)
    (fun i ys H x H' hi p y => by obtain ⟨e, y⟩ := y; subst e; exact hs i x ys _ (y xs (hl i ys _ (Nat.le_of_lt hi) p)) p) hd
theorem compS {z : Str} {k : Nat} {js : List Nat} {g : TG} {tc : TT} {te : TE} {σ : St} {H : Hp} {Q : VK} (P : Nat → List V → Hp → Prop) (h0 : P 0 [] H) (hz : ∀ i ys H, i ≤ z.cps.size → P i ys H → ys.length ≤ i) (hn : z.cps.size ≤ sizeLine)
    (hs : ∀ i c ys H, z.cps[i]? = some c → P i ys H → g (.str ⟨#[c]⟩) (List.replicate k none ++ pick js σ) H fun σ2 H2 => tc σ2 H2 fun b H3 => if b = true then te σ2 H3 fun y H4 => Nx z.cps.size i P (ys ++ [y]) H4 else Nx z.cps.size i P ys H3)
    (hd : ∀ ys H, P z.cps.size ys H → ∀ p, H p = none → Q (.ref p) (upd H p (.lst ys))) :
    CompW (Its z) k js g tc te σ H Q :=
  comp_by P h0 hz hn (fun i ys H hi p => hi) (fun ys H p => Nat.le_refl _)
    (fun i ys H x H' hi p y => by obtain ⟨e, c, y, rfl⟩ := y; subst e; exact hs i c ys _ y p) hd
theorem boolsOf : ∀ {bs : List Bool} {us : List Value}, Vals (bs.map V.bl) us → us = bs.map Value.bool
  | [], _, .nil => rfl
  | b :: r, _, .cons h t => by cases h; rw [boolsOf t]; rfl
theorem call_all (hc : X.calm = true) : CallR X (.builtin "all") (fun xs H Q => ∃ (p : Addr) (bs : List Bool), xs = [.ref p] ∧ SqL X.K H p (bs.map V.bl) ∧ Q (.bl (bs.all id)) H) := by
  intro pins s σ H xs us Q I r h
  obtain ⟨p, bs, rfl, hq, q⟩ := h
  obtain ⟨u, rfl, rx⟩ := vals1 r
  cases rx
  obtain ⟨its, rv, pl, hz⟩ := I.list hq
  have hh : X.A.in1.handled = none := I.ok.hd hc
  have e := boolsOf rv
  subst e
  have hp : p < s.heap.objs.size := by obtain ⟨o, n, e, _⟩ := pl; exact Heap.lt_size e
  refine call_all_walk (wpAny_pyIter_list pl.isList ⟨s.heap.objs.size, _, _, _, _, _, fun i => bs.getD i false, rfl, Walks.list hh s.heap.objs.size p (Nat.ne_of_lt hp) _, ⟨⟨_, Heap.get?_push_size _ rfl, rfl, rfl⟩, pl.isList.push _⟩, ?_, fun h' tk hk => ?_⟩)
  · intro i v s' Q' E' hv q'
    have hv' : (bs.map Value.bool)[i]? = some v := by simpa using hv
    rw [List.getElem?_map] at hv'
    cases eb : bs[i]? with
    | none => rw [eb] at hv'; cases hv'
    | some b =>
      rw [eb] at hv'
      cases hv'
      refine wpAny_truthy_bool ?_
      have q2 : Q' (bs.getD i false) s' := q'
      rw [List.getD_eq_getElem?_getD, eb] at q2
      exact q2
  · have e : (List.range (bs.map Value.bool).toArray.size).all (fun i => bs.getD i false) = bs.all id := by
      rw [Bool.eq_iff_iff, List.all_eq_true, List.all_eq_true]
      constructor
      · intro h b hb
        obtain ⟨i, hi, rfl⟩ := List.mem_iff_getElem.mp hb
        have := h i (List.mem_range.mpr (by simpa using hi))
        rw [List.getD_eq_getElem?_getD, List.getElem?_eq_getElem hi] at this
        exact this
      · intro h i hi
        have hi' : i < bs.length := by simpa using List.mem_range.mp hi
        rw [List.getD_eq_getElem?_getD, List.getElem?_eq_getElem hi']
        exact h _ (List.getElem_mem hi')
    rw [e]
    refine ⟨.bl _, H, ?_, rfl, q⟩
    have I1 : Inv X pins σ H { s with heap := s.heap.push { cls := .type "list_iterator", data := .fields #[.ref p, .int 0 0] }, toks := s.toks } := I.kept fun b o e => Heap.get?_push_of_some _ e
    refine I1.turned (it := s.heap.objs.size) (fun b o hb e => hk b o (by simpa using hb) e) (I.hok.fresh (Nat.le_refl _)) (Nat.ne_of_gt I.lt) (.inr (Heap.get?_none_of_le I.sz)) (fun x c e z => ?_) fun p hp z => ?_
    · obtain ⟨v, o, ho, _⟩ := I.cell x c e
      rw [z] at ho
      exact absurd (Heap.lt_size ho) (Nat.lt_irrefl _)
    · have := (I.pin p hp).1
      rw [z] at this
      exact absurd (Heap.lt_size this) (Nat.lt_irrefl _)
theorem strsOf : ∀ {zs : List Str} {us : List Value}, Vals (zs.map V.str) us → StrsAre us zs
  | [], _, .nil => .nil
  | z :: r, _, .cons h t => by obtain ⟨tk, rfl⟩ := h; exact .cons z tk (strsOf t)
def rJoin (K : PySem.W.Frag) : V → List V → Hp → VK → Prop := fun x vs H Q => ∃ (z : Str) (p : Addr) (zs : List Str), x = .str z ∧ vs = [.ref p] ∧ SqL K H p (zs.map V.str) ∧ (zs.map (·.length)).sum + zs.length * z.length ≤ 16777216 ∧ Q (.str (Txt.join z zs)) H
theorem mt_join : MtR X "str.join" (rJoin X.K) := by
  intro pins s σ H x vs v us Q I rx rv h
  obtain ⟨z, p, zs, rfl, rfl, hq, hz, q⟩ := h
  obtain ⟨t, rfl⟩ := rx
  obtain ⟨u, rfl, ru⟩ := rv.one
  cases ru
  obtain ⟨its, r', pl, _⟩ := I.list hq
  exact join_list pl.isList (by simpa using strsOf r') hz fun t' k => ⟨.str _, H, I.tok _, ⟨_, rfl⟩, q⟩
def clsV : V → Option Value
  | .ty T => some (.type T)
  | .ref a => some (.ref a)
  | _ => none
def rIsT (K : PySem.W.Frag) : List V → Hp → VK → Prop := fun xs H Q => ∃ x y t c b, xs = [x, y] ∧ clsV y = some c ∧ TyOf K H x t ∧ PySem.W.kitOne K t c = some b ∧ Q (.bl b) H
theorem call_isT : CallR X (.builtin "isinstance") (rIsT X.K) := by
  intro pins s σ H xs us Q I r h
  obtain ⟨x, y, t, c, b, rfl, ec, ty, e, q⟩ := h
  obtain ⟨u, u', rfl, rx, ry⟩ := vals2 r
  have : u' = c := by
    cases y with
    | ref _ => cases ry; exact Option.some.inj ec
    | ty _ => cases ry; exact Option.some.inj ec
    | _ => cases ec
  subst this
  exact isinst_ok I rx ty e fun tk => ⟨.bl b, H, I.tok _, rfl, q⟩
def rUpdate : V → List V → Hp → VK → Prop := fun x vs H Q => ∃ d o kvs more, x = .ref d ∧ vs = [.ref o] ∧ d ≠ o ∧ H d = some (.dK kvs) ∧ H o = some (.dK more) ∧ kvs.length + more.length ≤ sizeLine ∧ Q .non (upd H d (.dK (mergeK kvs more)))
end
end L2
end
section
set_option Elab.async false
set_option linter.all false
set_option maxRecDepth 100000
set_option maxHeartbeats 1000000
namespace L2
open PySem PySem.Spec PyProof.Rows
def Kp (F : Addr → Prop) (fs : List Addr) (h h' : Heap) : Prop :=
  (∀ b o, h.get? b = some o → ¬ F b → b ∉ fs → h'.get? b = some o) ∧ (∀ b o, h.get? b = some o → ¬ F b → ∃ sl, h'.get? b = some { o with slots := sl }) ∧ ∀ b o, h.get? b = some o → ∃ o', h'.get? b = some o'
theorem Kp.trans {F : Addr → Prop} {fs : List Addr} {h h1 h2 : Heap} (a : Kp F fs h h1) (b : Kp F fs h1 h2) : Kp F fs h h2 :=
  ⟨fun c o e n m => b.1 c o (a.1 c o e n m) n m, fun c o e n => by
    obtain ⟨sl, e1⟩ := a.2.1 c o e n
    obtain ⟨sl2, e2⟩ := b.2.1 c _ e1 n
    exact ⟨sl2, e2⟩, fun c o e => by
    obtain ⟨o1, e1⟩ := a.2.2 c o e
    exact b.2.2 c o1 e1⟩
structure ExcAt (h : Heap) (x : Addr) (cls : Value) (vs : Array Value) : Prop where
  get : ∃ oe, h.get? x = some oe ∧ oe.cls = cls ∧ oe.dict = none ∧ oe.data = .fields vs
  ctx : vs[2]? = some .none
def Flt (F : Addr → Prop) (h : Heap) (x : Addr) (cls fl : Value) : Prop :=
  ∃ vs T oT ts, ExcAt h x cls vs ∧ vs[1]? = some (.ref T) ∧ T ≠ x ∧ h.get? T = some oT ∧ oT.data = .fields ts ∧ ts[3]? = some fl ∧ F x ∧ F T
def Flt0 (F : Addr → Prop) (h : Heap) (x : Addr) (cls : Value) : Prop := ∃ vs, ExcAt h x cls vs ∧ vs[1]? = some .none ∧ F x
section
variable {M : Model} {A : Around} {E : Value → Shared → Prop} {s : Shared} {F : Addr → Prop} {base : Heap} {env : Env} {outer : List Env} {L x : Addr} {cls : Value}
theorem set_fl {fl : Value} {Q : Unit → Shared → Prop} (t : Flt F s.heap x cls fl) {fs : List Addr} (h : ∀ h', Kp F fs s.heap h' → Flt F h' x cls .none → Q () { s with heap := h' }) : wpAny M A (setFlight (.ref x) none) Q E s := by
  obtain ⟨vs, T, oT, ts, ⟨⟨oe, he, hc, hdd, hd⟩, h2⟩, h1, hTx, hT, hdT, h3, fx, fT⟩ := t
  have z3 : 3 < ts.size := (Array.getElem?_eq_some_iff.mp h3).1
  unfold setFlight
  refine wpAny_bind (wpAny_field he hd h1 ?_)
  rw [if_pos (show (Value.ref T != Value.none) = true from by simp)]
  have oth : ∀ b, b ≠ T → (s.heap.update T (Obj.mapFields (·.setIfInBounds 3 Value.none))).get? b = s.heap.get? b := fun b hb => Heap.get?_update_other _ _ (Ne.symm hb)
  have slf := Heap.get?_update_self (Obj.mapFields (·.setIfInBounds 3 Value.none)) hT (Obj.isFreed_of_fields (Obj.data_mapFields hdT _))
  refine wpAny_setField hT hdT z3 (h _ ⟨fun b o e n _ => ?_, fun b o e n => ⟨o.slots, ?_⟩, fun b o e => ?_⟩ ?_)
  · exact (oth b fun z => n (z ▸ fT)).trans e
  · exact (oth b fun z => n (z ▸ fT)).trans e
  · by_cases z : b = T
    · subst z; exact ⟨_, slf⟩
    · exact ⟨o, (oth b z).trans e⟩
  · exact ⟨vs, T, _, _, ⟨⟨oe, (oth x (Ne.symm hTx)).trans he, hc, hdd, hd⟩, h2⟩, h1, hTx, slf, Obj.data_mapFields hdT _, by simp [z3], fx, fT⟩
theorem note_entry {vs : Array Value} {head : Value} {hn : Bool} {Q : Unit → Shared → Prop} (hfr : A.frames = some (env :: outer)) (hl : s.heap.FunFrames base (env :: outer)) (hf : env.frame = some L)
    (t : ExcAt s.heap x cls vs) (z1 : 1 < vs.size) (fx : F x) (hF : ∀ b, s.heap.objs.size ≤ b → F b)
    (h : ∀ h', Kp F (frs (env :: outer)) s.heap h' → Flt F h' x cls (rawInt L) → Q () { s with heap := h' }) :
    wpAny M A (do let a ← frameOf env; let pl ← entryPlaceOf L hn; let b ← EntryCells.newEntry head a .none (rawInt L) .none pl; setField (.ref x) 1 b) Q E s := by
  obtain ⟨⟨oe, he, hc, hdd, hd⟩, h2⟩ := t
  have hx : x ∉ frs (env :: outer) := fun hm => by
    obtain ⟨_, o, ho, hnf⟩ := hl.mem hm
    rw [he] at ho; cases ho; exact hnf vs hd
  refine wpAny_bind (wpAny_frameOf_fun hfr hl hf fun g hs => ?_)
  obtain ⟨g0, g1, g2⟩ := hs
  refine wpAny_bind (wpAny_entryPlaceOf fun pl hpl => ?_)
  unfold EntryCells.newEntry newFields
  refine wpAny_bind (wpAny_newObj_type ?_ (hpl.sizeOk5 _ _ _ _ _))
  have he1 : g.get? x = some oe := (g1 x hx).trans he
  generalize hob : ({ cls := .type "traceback", dict := none, data := .fields ([head, .ref L, .none, rawInt L, .none] ++ (if pl.isEmpty then List.replicate 6 Value.none else pl)).toArray } : Obj) = ob
  have hobd : ob.data = .fields ([head, .ref L, .none, rawInt L, .none] ++ (if pl.isEmpty then List.replicate 6 Value.none else pl)).toArray := by rw [← hob]
  have hobf : ob.isFreed = false := Obj.isFreed_of_fields hobd
  have he2 : (g.push ob).get? x = some oe := Heap.get?_push_of_some _ he1
  have hTx : g.objs.size ≠ x := Nat.ne_of_gt (Heap.lt_size he1)
  have hd3 := Obj.data_mapFields hd (·.setIfInBounds 1 (Value.ref g.objs.size))
  have slf := Heap.get?_update_self (Obj.mapFields (·.setIfInBounds 1 (Value.ref g.objs.size))) he2 (Obj.isFreed_of_fields hd3)
  have oth : ∀ b o, b ≠ x → g.get? b = some o → ((g.push ob).update x (Obj.mapFields (·.setIfInBounds 1 (Value.ref g.objs.size)))).get? b = some o := fun b o hb e => by
    rw [Heap.get?_update_other _ _ (Ne.symm hb)]
    exact Heap.get?_push_of_some _ e
  refine wpAny_setField he2 hd z1 (h _ ⟨fun b o e n m => ?_, fun b o e n => ?_, fun b o e => ?_⟩ ?_)
  · exact oth b o (fun z => n (z ▸ fx)) ((g1 b m).trans e)
  · obtain ⟨sl, q⟩ := g2 b o e
    exact ⟨sl, oth b _ (fun z => n (z ▸ fx)) q⟩
  · obtain ⟨sl, q⟩ := g2 b o e
    by_cases z : b = x
    · subst z; exact ⟨_, slf⟩
    · exact ⟨_, oth b _ z q⟩
  · refine ⟨_, g.objs.size, ob, _, ⟨⟨_, slf, by rw [Obj.cls_mapFields]; exact hc, ?_, hd3⟩, ?_⟩, by simp [z1], hTx, ?_, hobd, ?_, fx, hF _ (Nat.le_of_eq g0.symm)⟩
    · obtain ⟨c, d, dt, sl⟩ := oe
      cases dt <;> exact hdd
    · rw [Array.getElem?_setIfInBounds_ne (by decide)]; exact h2
    · rw [Heap.get?_update_other _ _ (Ne.symm hTx)]
      exact Heap.get?_push_size g (by exact hobf)
    · simp
theorem note_new {Q : Unit → Shared → Prop} (hfr : A.frames = some (env :: outer)) (hl : s.heap.FunFrames base (env :: outer)) (hf : env.frame = some L) (t : Flt0 F s.heap x cls) (hF : ∀ b, s.heap.objs.size ≤ b → F b)
    (h : ∀ h', Kp F (frs (env :: outer)) s.heap h' → Flt F h' x cls (rawInt L) → Q () { s with heap := h' }) : wpAny M A (noteFrame (.ref x) env) Q E s := by
  obtain ⟨vs, ea, h1, fx⟩ := t
  obtain ⟨oe, he, hc, hdd, hd⟩ := ea.get
  unfold noteFrame
  simp only [hf]
  refine wpAny_bind (wpAny_field he hd h1 ?_)
  rw [if_neg (by decide)]
  exact note_entry hfr hl hf ea (Array.getElem?_eq_some_iff.mp h1).1 fx hF h
theorem note_next {Q : Unit → Shared → Prop} (hfr : A.frames = some (env :: outer)) (hl : s.heap.FunFrames base (env :: outer)) (hf : env.frame = some L) (t : Flt F s.heap x cls .none) (hF : ∀ b, s.heap.objs.size ≤ b → F b)
    (h : ∀ h', Kp F (frs (env :: outer)) s.heap h' → Flt F h' x cls (rawInt L) → Q () { s with heap := h' }) : wpAny M A (noteFrame (.ref x) env) Q E s := by
  obtain ⟨vs, T, oT, ts, ⟨⟨oe, he, hc, hdd, hd⟩, h2⟩, h1, hTx, hT, hdT, h3, fx, fT⟩ := t
  have z3 : 3 < ts.size := (Array.getElem?_eq_some_iff.mp h3).1
  unfold noteFrame
  simp only [hf]
  refine wpAny_bind (wpAny_field he hd h1 ?_)
  rw [if_pos (show (Value.ref T != Value.none) = true from by simp)]
  refine wpAny_bind (wpAny_field hT hdT h3 ?_)
  rw [if_neg (show ¬ ((Value.none == rawInt L) = true) from by simp [rawInt])]
  have oth : ∀ b, b ≠ T → (s.heap.update T (Obj.mapFields (·.setIfInBounds 3 Value.none))).get? b = s.heap.get? b := fun b hb => Heap.get?_update_other _ _ (Ne.symm hb)
  have slf := Heap.get?_update_self (Obj.mapFields (·.setIfInBounds 3 Value.none)) hT (Obj.isFreed_of_fields (Obj.data_mapFields hdT _))
  have nrec : ∀ b o, s.heap.get? b = some o → (∀ vs, o.data ≠ .fields vs) → b ≠ T := fun b o e nf z => by
    rw [z, hT] at e; cases e; exact nf ts hdT
  have k1 : Kp F (frs (env :: outer)) s.heap (s.heap.update T (Obj.mapFields (·.setIfInBounds 3 Value.none))) := ⟨fun b o e n _ => (oth b fun z => n (z ▸ fT)).trans e, fun b o e n => ⟨o.slots, (oth b fun z => n (z ▸ fT)).trans e⟩, fun b o e => by
    by_cases z : b = T
    · subst z; exact ⟨_, slf⟩
    · exact ⟨o, (oth b z).trans e⟩⟩
  refine wpAny_bind (wpAny_setField hT hdT z3 ?_)
  refine note_entry (s := { s with heap := s.heap.update T (Obj.mapFields (·.setIfInBounds 3 Value.none)) }) hfr (hl.of_keeps fun b o e nf => ⟨o, (oth b (nrec b o e nf)).trans e, rfl⟩) hf (vs := vs) ⟨⟨oe, (oth x (Ne.symm hTx)).trans he, hc, hdd, hd⟩, h2⟩ (Array.getElem?_eq_some_iff.mp h1).1 fx (fun b hb => hF b (by rwa [Heap.size_update] at hb)) ?_
  intro h' k2 t2
  exact h h' (k1.trans k2) t2
end
end L2
end
section
set_option Elab.async false
set_option linter.all false
set_option maxRecDepth 100000
set_option maxHeartbeats 1000000
namespace L2
open PySem PySem.Spec PyProof.Rows
section
variable {X : Cx} {pins : List (Addr × Obj)} {σ : St} {H : Hp} {s : Shared} {h' : Heap}
theorem Inv.flight {t' : Nat} (I : Inv X pins σ H s) (k : Kp (FpOk X pins H) (frs X.stack) s.heap h') : Inv X pins σ H { s with heap := h', toks := t' } := by
  classical
  have nf : ∀ b o, H b = some o → ¬ FpOk X pins H b := fun b o e f => by rw [f.1] at e; cases e
  have ns : ∀ b o, H b = some o → b ∉ frs X.stack := fun b o e z => by rw [I.stkFree b z] at e; cases e
  have hch : ∀ b ∈ (List.range s.heap.objs.size).filter (fun b => decide (FpOk X pins H b)), FpOk X pins H b := fun b hb => of_decide_eq_true (List.mem_filter.mp hb).2
  have nch : ∀ b o, s.heap.get? b = some o → b ∉ (List.range s.heap.objs.size).filter (fun b => decide (FpOk X pins H b)) → ¬ FpOk X pins H b := fun b o e n f =>
    n (List.mem_filter.mpr ⟨List.mem_range.mpr (Heap.lt_size e), decide_eq_true f⟩)
  have stk : ∀ b, b ≠ X.env.locals → b ∉ X.fs → b ∉ frs X.stack := fun b h1 h2 z => (List.mem_cons.mp (I.stkSub b z)).elim h1 h2
  refine I.step (g' := s.gens) (d' := s.drawn) (ch := (List.range s.heap.objs.size).filter (fun b => decide (FpOk X pins H b))) (fun b hb => ?_) (fun b o hL hb hc e n => k.1 b o e (nch b o e hc) (stk b hL hb)) (fun b o hL hb hc e n => k.2.1 b o e (nch b o e hc))
    (fun b o hc e n => n) (fun b o hc e => k.2.2 b o e) (fun _ _ e => e) (fun _ _ _ e => e) (fun b ps e => ⟨#[], by rw [e]; simp⟩) (fun m hm => ?_) (fun b o e => ?_) I.bare
  · obtain ⟨f0, f1, f2, f3, f4, f5⟩ := hch b hb
    exact ⟨f3, f1, f4, f5⟩
  · obtain ⟨o, es, ep, ho, r⟩ := hm
    obtain ⟨sl, q⟩ := k.2.1 _ o ho fun f => f.2.1 rfl
    exact ⟨_, es, ep, q, r⟩
  · refine (I.hok b o e).stay (fun c u hc q => ?_) (fun _ q => q) fun _ _ q => q
    rcases hc with z | z
    · subst z; exact k.1 _ u q (nf _ o e) (ns _ o e)
    · exact k.1 c u q (nf c _ z) (ns c _ z)
theorem Inv.fpGone {H' : Hp} (I : Inv X pins σ H s) {b : Addr} (hb : s.heap.get? b = none) (hn : H' b = none) : FpOk X pins H' b := by
  refine ⟨hn, fun z => ?_, fun z => ?_, ?_, fun x c e z => ?_, fun p hp z => ?_⟩
  · obtain ⟨m, ⟨o, _, _, ho, _⟩, _⟩ := I.loc
    rw [z, ho] at hb; cases hb
  · obtain ⟨_, o, ho, _⟩ := I.funs.mem z
    rw [ho] at hb; cases hb
  · by_cases hx : b ∈ X.ex
    · exact .inl hx
    · refine .inr ?_
      cases e : X.s₀.heap.get? b with
      | none => rfl
      | some o =>
        obtain ⟨o', e'⟩ := I.base.there b o e hx
        rw [e'] at hb; cases hb
  · obtain ⟨v, o, ho, _⟩ := I.cell x c e
    rw [z, hb] at ho; cases ho
  · have := (I.pin p hp).1
    rw [z, hb] at this; cases this
theorem Inv.fpNew (I : Inv X pins σ H s) : ∀ b, s.heap.objs.size ≤ b → FpOk X pins H b := fun b hb => I.fpOk hb (I.hok.fresh hb)
end
def CXe (P : Program) (w : World) : CXT := fun outer H s E e s' => ∃ x cls H', e = .ref x ∧ s'.os = s.os ∧ AllBare s'.gens ∧ Un (frs outer) [] H H' s.heap s'.heap ∧ HOk P w H' s'.heap ∧
  Flt (fun b => s.heap.get? b = none ∧ H' b = none) s'.heap x cls .none ∧ E cls none H'
def Out (X : Cx) (pins : List (Addr × Obj)) (x : Addr) (cls : Value) (σ : St) (H : Hp) (s : Shared) : Prop := Inv X pins σ H s ∧ (Flt0 (FpOk X pins H) s.heap x cls ∨ Flt (FpOk X pins H) s.heap x cls .none)
section
variable {X : Cx} {pins : List (Addr × Obj)} {σ : St} {H : Hp} {s : Shared}
theorem Flt.imp {F G : Addr → Prop} {h : Heap} {x : Addr} {cls fl : Value} (f : ∀ b, F b → G b) (t : Flt F h x cls fl) : Flt G h x cls fl := by
  obtain ⟨vs, T, oT, ts, a, b, c, d, e, g, fx, fT⟩ := t
  exact ⟨vs, T, oT, ts, a, b, c, d, e, g, f _ fx, f _ fT⟩
theorem Out.of_call {E : XK} {e : Value} {s' : Shared} (I : Inv X pins σ H s) (c : CXe X.prog X.w X.stack H s E e s') : ∃ x cls H', e = .ref x ∧ E cls none H' ∧ Out X pins x cls σ H' s' := by
  obtain ⟨x, cls, H', rfl, os, bare, un, hok, t, q⟩ := c
  have I' : Inv X pins σ H' s' := I.call' (ch := []) os un hok bare (fun b z => absurd z (by simp))
  refine ⟨x, cls, H', rfl, q, I', .inr (t.imp fun b ⟨hb, hn⟩ => ?_)⟩
  exact I.fpGone hb hn
theorem Out.note {E : Value → Shared → Prop} {x L : Addr} {cls : Value} {Q : Unit → Shared → Prop} (o : Out X pins x cls σ H s) (hst : X.stack = X.env :: X.outer) (hf : X.env.frame = some L)
    (h : ∀ h', Kp (FpOk X pins H) (frs X.stack) s.heap h' → Flt (FpOk X pins H) h' x cls (rawInt L) → Q () { s with heap := h' }) : wpAny (model X.prog X.w) X.A (noteFrame (.ref x) X.env) Q E s := by
  obtain ⟨I, t⟩ := o
  have hfr : X.A.frames = some (X.env :: X.outer) := by rw [I.ok.frames, hst]
  have hl : s.heap.FunFrames X.base (X.env :: X.outer) := by rw [← hst]; exact I.stack
  rw [hst] at h
  rcases t with t | t
  · exact note_new hfr hl hf t I.fpNew h
  · exact note_next hfr hl hf t I.fpNew h
theorem Out.leave {P : Program} {w : World} {K : PySem.W.Frag} {mg : Str → Option Value} {base : Heap} {N : List Str} {qual : Str} {scope : Scope} {f : Addr} {cd : Value} {A : Around} {outer : List Env} {s0 : Shared} {H0 : Hp} {E : XK} {x : Addr} {cls : Value}
    {EE : Value → Shared → Prop} (o : Out { cxOf (CXe P w) P w K mg base N qual scope f cd A outer s0 H0 E with xe := EE } pins x cls σ H s) (q : E cls none H) : (cxOf (CXe P w) P w K mg base N qual scope f cd A outer s0 H0 E).xe (.ref x) s := by
  have I := o.1
  show wpAny (model P w) (A.deeper (envOfC qual scope s0.heap.objs.size f cd)) (leaving (envOfC qual scope s0.heap.objs.size f cd) (.ref x)) _ _ s
  unfold leaving
  refine wpAny_bind ?_
  refine Out.note (X := { cxOf (CXe P w) P w K mg base N qual scope f cd A outer s0 H0 E with xe := EE }) (L := s0.heap.objs.size) o rfl rfl fun h1 k1 t1 => ?_
  refine set_fl (s := { s with heap := h1 }) (fs := frs (envOfC qual scope s0.heap.objs.size f cd :: outer)) t1 fun h2 k2 t2 => ?_
  have I2 : Inv { cxOf (CXe P w) P w K mg base N qual scope f cd A outer s0 H0 E with xe := EE } pins σ H { s with heap := h2, toks := s.toks } := I.flight (k1.trans k2)
  refine ⟨x, cls, H, rfl, I2.os, I2.bare, I2.base, I2.hok, t2.imp fun b fb => ⟨?_, fb.1⟩, q⟩
  rcases fb.2.2.2.1 with z | z
  · exact absurd (show b ∈ ([] : List Addr) from z) (by simp)
  · exact z
end
end L2
end
section
set_option Elab.async false
set_option linter.all false
set_option maxRecDepth 100000
set_option maxHeartbeats 1000000
namespace L2
open PySem PySem.Spec PyProof.Rows
abbrev XS := Value → St → Hp → Prop
def Xok (X : Cx) (EX : XS) : Prop := ∀ (pins : List (Addr × Obj)) (σ : St) (H : Hp) (s : Shared) (x : Addr) (cls : Value), Out X pins x cls σ H s → EX cls σ H → X.xe (.ref x) s
theorem xok_def {P : Program} {w : World} {K : PySem.W.Frag} {mg : Str → Option Value} {base : Heap} {N : List Str} {qual : Str} {scope : Scope} {f : Addr} {cd : Value} {A : Around} {outer : List Env} {s0 : Shared} {H0 : Hp} {E : XK} :
    Xok (cxOf (CXe P w) P w K mg base N qual scope f cd A outer s0 H0 E) (fun cls _ H => E cls none H) := fun pins σ H s x cls o q =>
  Out.leave (EE := (cxOf (CXe P w) P w K mg base N qual scope f cd A outer s0 H0 E).xe) o q
theorem exc_cls {K : PySem.W.Frag} {h : Heap} {C : Addr} {bmB : List Value} {newId : String} (X : K.In h) (q : PySem.W.excIn K C bmB newId = true) :
    ∃ bm N nm qn bs hdct sn sub ab col dd k0 k1 k2 k3 k5 mN, h.get? C = some (excClassObj nm qn C N bs bm hdct sn sub ab col dd k0 k1 k2 k3 k5 newId) ∧ h.Ns N mN ∧ mN "__init__" = none ∧ OwnTail h bmB bm := by
  unfold PySem.W.excIn at q
  split at q
  · rename_i dd cd sl ho
    split at q
    · rename_i C' bm k0 k1 k2 k3 n k5 hm hs
      simp only [Bool.and_eq_true, beq_iff_eq, Bool.not_eq_true'] at q
      obtain ⟨⟨⟨⟨⟨rfl, rfl⟩, hdel⟩, ht⟩, hok⟩, hni⟩ := q
      obtain ⟨nm, bs, mro, ns, qn, hd, sn, sub, ab, col, del⟩ := cd
      dsimp only at hm hdel hok hni
      subst hm; subst hdel
      obtain ⟨l⟩ := sl
      have hl : l = [k0, k1, k2, k3, some (.builtin n), k5] := hs
      subst hl
      exact ⟨bm, ns, nm, qn, bs, hd, sn, sub, ab, col, dd, k0, k1, k2, k3, k5, _, X _ _ ho, .of_isNs (PySem.W.isNs_of_in X hok), PySem.W.nsMap_none_of_in X hok hni, PySem.W.tail_of_in X ht⟩
    · cases q
  · cases q
abbrev bmVE : List Value := [.type "ValueError", .type "Exception", .type "BaseException", .type "object"]
def tRaise (t : TA) (EX : St → Hp → Prop) : TS := fun D σ H => t σ H fun vs H1 => vs.length ≤ sizeLine ∧ EX σ H1
theorem ps_raise {X : Cx} {x : Str} {C : Addr} {np cpos pos : Pos} {e : Expr} {es : List Expr} {t : TA} {EX : XS} (hc : X.calm = true) (hg : Gl X x) (hm : X.mg x = some (.ref C)) (hK : PySem.W.excIn X.K C bmVE "ValueError.__new__" = true) (ha : PA X (e :: es) t) (hx : Xok X EX)
    (hdb : (x == ("__debug__" : Str)) = false := by decide) (he : starEach (e :: es) X.env = (false, eval e X.env) :: starEach es X.env := by rfl) (hpl : (backTo cpos (starEach es X.env)).any (·.1) = false := by rfl) :
    PS X (.Raise (some (.Call (.Name x np) (e :: es) [] cpos)) none pos) (tRaise t (EX (.ref C))) := by
  intro pins s σ H D I h
  obtain ⟨bm, N, nm, q, bs, hdct, sn, sub, ab, col, dd, k0, k1, k2, k3, k5, mN, hC, hN, hni, T⟩ := exc_cls I.mod.kin hK
  refine wpAny_Raise_call_subT (C := C) (nm := nm) (q := q) (N := N) (bs := bs) (bm := bm) (hdct := hdct) (sn := sn) (sub := sub) (ab := ab) (col := col) (dd := dd) (k0 := k0) (k1 := k1) (k2 := k2) (k3 := k3) (k5 := k5)
    PySem.F.excBase_ValueError (mN := mN) (T.hasType PySem.F.excBase_ValueError.hasBase) (I.ok.hd hc) (by rw [he]; show (false || (backTo cpos (starEach es X.env)).any (·.1)) = false; rw [hpl]; rfl) hni (ld_glob I hg hm ⟨rfl, ?_⟩ hdb)
  have hA := ha cpos pins s σ H _ I h
  rw [he] at hA ⊢
  refine Calls.evalArgs_plain (thn hA fun us s2 ⟨vs, H1, I1, r1, hz, q1⟩ => ⟨rfl, by rw [← r1.length]; exact hz, I1.bk _ _ hC, hN.keeps I1.bk, T.keeps I1.bk, fun h' x' hm' => ?_⟩)
  have I2 : Inv X pins σ H1 { s2 with heap := h', toks := s2.toks } := I1.kept hm'.keeps
  refine hx pins σ H1 _ x' (.ref C) ⟨I2, .inl ?_⟩ q1
  obtain ⟨tt, h1, h2, h3⟩ := hm'.there
  refine ⟨_, ⟨⟨_, h1, rfl, rfl, rfl⟩, rfl⟩, rfl, I1.fpGone hm'.new ?_⟩
  cases e2 : H1 x' with
  | none => rfl
  | some o =>
    obtain ⟨ob, g⟩ : ∃ ob, s2.heap.get? x' = some ob := by
      have z := (I1.hok x' o e2)
      clear q1
      revert z
      induction o with
      | lst xs => exact fun ⟨_, its, n, r, e⟩ => ⟨_, e⟩
      | tup xs => exact fun ⟨_, its, r, ob, e, _⟩ => ⟨_, e⟩
      | dK kvs => exact fun ⟨_, _, _, _, ob, _, _, e, _⟩ => ⟨_, e⟩
      | dT kvs => exact fun ⟨_, _, _, _, ob, _, _, e, _⟩ => ⟨_, e⟩
      | set S n => exact fun ⟨ob, _, _, _, e, _⟩ => ⟨_, e⟩
      | ins C dx fs => exact fun ⟨_, _, _, e, _⟩ => ⟨_, e⟩
      | own x => exact fun ⟨ob, e⟩ => ⟨_, e⟩
      | xd fs => exact fun ⟨mA, ⟨ob, _, _, e, _⟩, _⟩ => ⟨_, e⟩
      | met f x => exact fun e => ⟨_, e⟩
      | rng lo hi => exact fun ⟨_, _, _, e⟩ => ⟨_, e⟩
      | frz o u _ => exact fun ⟨e, _⟩ => ⟨_, e⟩
      | tbl ps => exact fun e => ⟨_, e⟩
      | ext φ => exact fun ⟨_, ⟨ob, e⟩, _⟩ => ⟨_, e⟩
    rw [hm'.new] at g
    cases g
def tCallX (sp : Sp) (EX : XS) (t : TA) : TE := fun σ H Q => t σ H fun vs H1 => sp vs H1 Q fun cls _ H' => EX cls σ H'
theorem pe_callX {X : Cx} {k : Nat} {f : Addr} {fd : FuncData} {ps : List Str} {sp : Sp} {EX : XS} {x : Str} {p pos : Pos} {e : Expr} {es : List Expr} {t : TA} (F : FnOk X.prog X.w X.K X.mg X.base (CXe X.prog X.w) k f fd ps sp) (hr : Room k X.A) (hg : Gl X x) (hm : X.mg x = some (.ref f)) (hk : PySem.W.keepIn X.K (.ref f) = true) (hb : Binds X.K fd ps []) (hx : Xok X EX)
    (ha : PA X (e :: es) t) (hdb : (x == ("__debug__" : Str)) = false := by decide) (he : starEach (e :: es) X.env = (false, eval e X.env) :: starEach es X.env := by rfl) (hpl : (backTo pos (starEach es X.env)).any (·.1) = false := by rfl) :
    PE X (.Call (.Name x p) (e :: es) [] pos) (tCallX sp EX t) := by
  intro pins s σ H Q I h
  refine wpAny_Call_Name_kw (ld_glob I hg hm ?_ hdb)
  refine PySem.W.callWith_K (h₀ := X.base) I.ok.mod.kin hk (thn (ha pos pins s σ H _ I h) fun us s1 ⟨vs, H1, I1, r, q⟩ => ⟨I1.kIn, ?_⟩) he hpl
  have hl : (us ++ []).length = ps.length := by rw [List.append_nil, ← r.length]; exact F.len _ _ _ _ q
  have hb' := hb s1 us I1.kIn hl
  rw [List.append_nil] at hb'
  refine wpAny_call (codeAny_mono (F.run X.A X.stack s1 H1 ⟨us, []⟩ us vs Q _ hr I1.env0 hb' r q) fun r s' hq => ?_)
  cases r with
  | error e =>
    obtain ⟨x, cls, H', rfl, q', o⟩ := Out.of_call (E := fun cls _ H' => EX cls σ H') (e := e) (s' := s') I1 hq
    exact hx pins σ H' s' x cls o q'
  | ok fl =>
    cases fl with
    | ret u => exact I1.after hq
    | next => exact False.elim hq
    | brk => exact False.elim hq
    | cont => exact False.elim hq
section
variable {P : Program} {w : World} {K : PySem.W.Frag} {mg : Str → Option Value} {base : Heap}
theorem Fun.okE {x qual : Str} {st : Stmt} {f : Addr} {fd : FuncData} {N ps : List Str} {k : Nat} {sp : Sp} (F : Fun K x qual st f fd) (S : FnScope N ps (defScope st)) (len : ∀ vs H Q E, sp vs H Q E → vs.length = ps.length)
    (hbody : ∀ (cdv : Value) (A : Around) (outer : List Env) (s : Shared) (H : Hp) (vs : List V) (Q : VK) (E : XK), Room k (A.deeper (envOfC qual (defScope st) s.heap.objs.size f cdv)) → sp vs H Q E →
      ∃ t, PSs (cxOf (CXe P w) P w K mg base N qual (defScope st) f cdv A outer s H E) (defBody st) t ∧ t { nx := fun _ H' => Q .non H', rt := Q } (start N vs) H) : FnOk P w K mg base (CXe P w) (k + 1) f fd ps sp := by
  obtain ⟨oc, od, kV, doc, pm, an, cdv, ct, osl, rfl, lk, hcd⟩ := F.ex
  exact fn_of lk hcd S len fun A outer s H vs Q E hr hsp => hbody cdv A outer s H vs Q E hr hsp
theorem Room.calm {k : Nat} {A : Around} {env : Env} (r : Room k (A.deeper env)) : A.handled.isNone = true := by
  have := r.hd
  have h2 : A.handled = none := this
  rw [h2]; rfl
end
end L2
end
section
set_option Elab.async false
set_option linter.all false
set_option maxRecDepth 100000
set_option maxHeartbeats 2000000
namespace L2
open PySem PySem.Spec PyProof.Rows
section
variable {M : Model} {A : Around} {E : Value → Shared → Prop}
theorem exc_matches {h : Heap} {g : Array GenState} {d : Drawn} {t : Nat} {os : OsState} {x C B : Addr} {oe : Obj} {nm q : Str} {N : Addr} {bs bm : List Value} {hdct : Bool} {sn : List Str} {sub : List Value} {ab : Bool} {col : Option Bool} {dd : Option Addr} {k0 k1 k2 k3 k5 : Option Value} {newId : String}
    {nmb qb : Str} {Nb : Addr} {bsb bmb : List Value} {hdctb : Bool} {snb : List Str} {subb : List Value} {abb : Bool} {colb : Option Bool} {ddb : Option Addr} {j0 j1 j2 j3 j5 : Option Value} {newIdb : String} {Q : Bool → Shared → Prop}
    (hC : h.get? C = some (excClassObj nm q C N bs bm hdct sn sub ab col dd k0 k1 k2 k3 k5 newId)) (hB : h.get? B = some (excClassObj nmb qb B Nb bsb bmb hdctb snb subb abb colb ddb j0 j1 j2 j3 j5 newIdb))
    (he : h.get? x = some oe) (hcls : oe.cls = .ref C) (hbase : bmb.contains (.type "BaseException") = true) (hs : (Value.ref C :: bm).contains (.ref B) = true)
    (hq : Q true ⟨h, g, d, t, os⟩) : wpAny M A (excMatches (.ref x) (.ref B)) Q E ⟨h, g, d, t, os⟩ := by
  have hcB : (Value.ref B :: bmb).contains (.type "BaseException") = true := by rw [List.contains_cons, hbase, Bool.or_true]
  have f := tc_notTuple
  unfold excMatches
  repeat (first | (with_reducible refine wpAny_loadPart_at he ?_; rw [hcls]) | with_reducible refine wpAny_loadPart_at hB ?_ | (with_reducible refine wpAny_isSubtype_exc hB ?_; rw [hcB]) | (with_reducible refine wpAny_isSubtype_exc hC ?_; rw [hs]) | wp_step)
  exact hq
end
def subIn (K : PySem.W.Frag) (C B : Addr) : Bool := match K.lookup C with
  | some ⟨_, _, .cls cd, _⟩ => cd.mro.contains (.ref B)
  | _ => false
def ExcO (x : Addr) (cls : Value) : HO := .ext fun h => ∃ vs, ExcAt h x cls vs
section
variable {X : Cx} {pins : List (Addr × Obj)} {σ : St} {H : Hp} {s : Shared}
theorem Inv.track {b : Addr} {o : HO} (I : Inv X pins σ H s) (f : FpOk X pins H b) (ob : ObjOk X.prog X.w (upd H b o) s.heap b o) : Inv X pins σ (upd H b o) s := by
  obtain ⟨f0, f1, f2, f3, f4, f5⟩ := f
  have nb : ∀ c u, H c = some u → c ≠ b := fun c u e z => by rw [z, f0] at e; cases e
  refine ⟨I.ok, I.os, I.bare, ⟨I.base.keep, I.base.slot, fun c u e n hx => ?_, I.base.there, fun c xs e => ?_, fun c u xs e => ?_, fun c ps e => ?_⟩, I.loc, I.cell, ?_, fun x c e => ?_, fun p hp => ?_, fun c u e => ?_, I.len⟩
  · have z : c ≠ b := fun z => by
      subst z
      rcases f3 with q | q
      · exact hx q
      · rw [q] at e; cases e
    rw [upd_ne z]; exact I.base.free c u e n hx
  · have q := I.base.tups c xs e; rw [upd_ne (nb c _ q)]; exact q
  · have q := I.base.frzs c u xs e; rw [upd_ne (nb c _ q)]; exact q
  · obtain ⟨more, q⟩ := I.base.tbls c ps e; exact ⟨more, by rw [upd_ne (nb c _ q)]; exact q⟩
  · rw [upd_ne (Ne.symm f1)]; exact I.free
  · rw [upd_ne (f4 x c e)]; exact I.freeC x c e
  · obtain ⟨a1, a2, a3⟩ := I.pin p hp
    exact ⟨a1, by rw [upd_ne (f5 p hp)]; exact a2, a3⟩
  · by_cases z : c = b
    · subst z; rw [upd_same] at e; cases e; exact ob
    · rw [upd_ne z] at e
      refine (I.hok c u e).stay (fun _ _ _ q => q) (fun a q => ?_) fun a xs q => ?_
      · rw [upd_ne (nb a _ q)]; exact q
      · rw [upd_ne (nb a _ q)]; exact q
abbrev Cx.hold (X : Cx) (pn : List (Addr × Obj)) : Cx := { X with pn := X.pn ++ pn }
def cxTry (X : Cx) (pn : List (Addr × Obj)) (EX : XS) : Cx := { X with pn := X.pn ++ pn, xe := fun e s' => ∃ x cls σ' H', e = .ref x ∧ Out (X.hold pn) [] x cls σ' H' s' ∧ EX cls σ' H' }
def cxHand (X : Cx) (x : Addr) : Cx := { X with A := X.A.mark (some (.ref x)), calm := false, xe := fun _ _ => False }
theorem Cx.Ok.same {X Y : Cx} (ok : X.Ok) (h : Y = { X with pn := Y.pn, xe := Y.xe }) : Y.Ok := by
  rw [h]
  exact ⟨ok.mod, ok.kind, ok.glob, ok.blt, ok.above, ok.inj, ok.has, ok.cab, ok.hd, ok.frames, ok.stk, ok.exf, ok.bs, ok.bsz, ok.noex, ok.exfs, ok.funs, ok.frf⟩
theorem Inv.hold {EX : XS} (I : Inv X pins σ H s) : Inv (cxTry X pins EX) [] σ H s :=
  ⟨I.ok.same rfl, I.os, I.bare, I.base, I.loc, I.cell, I.free, I.freeC, fun p hp => I.pin p (by rw [List.append_nil] at hp; exact hp), I.hok, I.len⟩
theorem Inv.unhold {EX : XS} {p : List (Addr × Obj)} (I : Inv (cxTry X pins EX) p σ H s) : Inv X pins σ H s :=
  ⟨I.ok.same rfl, I.os, I.bare, I.base, I.loc, I.cell, I.free, I.freeC, fun q hq => I.pin q (List.mem_append_left _ hq), I.hok, I.len⟩
theorem Inv.unhold' {p : List (Addr × Obj)} (I : Inv (X.hold pins) p σ H s) : Inv X pins σ H s :=
  ⟨I.ok.same rfl, I.os, I.bare, I.base, I.loc, I.cell, I.free, I.freeC, fun q hq => I.pin q (List.mem_append_left _ hq), I.hok, I.len⟩
theorem FpOk.unhold {b : Addr} (f : FpOk (X.hold pins) [] H b) : FpOk X pins H b := by
  obtain ⟨f0, f1, f2, f3, f4, f5⟩ := f
  exact ⟨f0, f1, f2, f3, f4, fun p hp => f5 p (List.mem_append_left _ hp)⟩
theorem Out.unhold {x : Addr} {cls : Value} (o : Out (X.hold pins) [] x cls σ H s) : Out X pins x cls σ H s := by
  obtain ⟨I, t⟩ := o
  refine ⟨I.unhold', ?_⟩
  rcases t with ⟨vs, a, b, c⟩ | t
  · exact .inl ⟨vs, a, b, c.unhold⟩
  · exact .inr (t.imp fun _ f => f.unhold)
theorem xok_try {pn : List (Addr × Obj)} {EX : XS} : Xok (cxTry X pn EX) EX := fun pins σ H s x cls o q => by
  obtain ⟨I, t⟩ := o
  have lift : ∀ b, FpOk (cxTry X pn EX) pins H b → FpOk (X.hold pn) [] H b := fun b ⟨f0, f1, f2, f3, f4, f5⟩ => ⟨f0, f1, f2, f3, f4, fun p hp => f5 p (List.mem_append_left _ (by rw [List.append_nil] at hp; exact hp))⟩
  refine ⟨x, cls, σ, H, rfl, ⟨⟨I.ok.same rfl, I.os, I.bare, I.base, I.loc, I.cell, I.free, I.freeC, fun p hp => I.pin p (List.mem_append_left _ (by rw [List.append_nil] at hp; exact hp)), I.hok, I.len⟩, ?_⟩, q⟩
  rcases t with ⟨vs, a, b, c⟩ | t
  · exact .inl ⟨vs, a, b, lift _ c⟩
  · exact .inr (t.imp lift)
theorem Inv.hand {x : Addr} (I : Inv X pins σ H s) : Inv (cxHand X x) pins σ H s :=
  ⟨⟨I.ok.mod, I.ok.kind, I.ok.glob, I.ok.blt, I.ok.above, I.ok.inj, I.ok.has, I.ok.cab, fun z => absurd (show false = true from z) Bool.false_ne_true, I.ok.frames, I.ok.stk, I.ok.exf, I.ok.bs, I.ok.bsz, I.ok.noex, I.ok.exfs, I.ok.funs, I.ok.frf⟩,
    I.os, I.bare, I.base, I.loc, I.cell, I.free, I.freeC, I.pin, I.hok, I.len⟩
theorem Inv.unhand {x : Addr} (ok : X.Ok) (I : Inv (cxHand X x) pins σ H s) : Inv X pins σ H s :=
  ⟨ok, I.os, I.bare, I.base, I.loc, I.cell, I.free, I.freeC, I.pin, I.hok, I.len⟩
theorem name_goes {M : Model} {A : Around} {E : Value → Shared → Prop} {i : Nat} {n : Str} {pos : Pos} {Q : Unit → Shared → Prop} (I : Inv X pins σ H s) (hN : X.N.Nodup) (hi : X.N[i]? = some n) (hx : X.env.scope.names.lookup n = some .local)
    (h : ∀ s', Inv X pins (σ.set i none) H s' → Q () s') : wpAny M A (do bindName X.env n .none; unbindBehindTheSuite X.env n pos) Q E s := by
  obtain ⟨m, hn, hl⟩ := id I.loc
  refine wpAny_nameGoes_keeps (m := m) hx hn (by rw [I.ok.kind]; rfl) fun h' v hn' hs => ?_
  have iσ : i < σ.length := by rw [I.len]; exact (List.getElem?_eq_some_iff.mp hi).1
  obtain ⟨oL, _, _, hoL, _⟩ := id hn
  have nL : ∀ b o, X.s₀.heap.get? b = some o → b ≠ X.env.locals := fun b o e => Nat.ne_of_lt (Nat.lt_of_lt_of_le (Heap.lt_size e) I.ok.above)
  refine h { s with heap := h', toks := s.toks + 1 } ⟨I.ok, I.os, I.bare, ⟨fun b o e n hb hx => ?_, fun b o e n hb hx => ?_, I.base.free, fun b o e hx => ?_, I.base.tups, I.base.frzs, I.base.tbls⟩, ⟨_, hn', fun j y u e1 e2 e3 => ?_⟩, fun y c e => ?_, I.free, I.freeC, fun p hp => ?_, fun b o e => ?_, by rw [List.length_set]; exact I.len⟩
  · exact (hs.2 b (nL b o e)).trans (I.base.keep b o e n hb hx)
  · obtain ⟨sl, e1⟩ := I.base.slot b o e n hb hx
    exact ⟨sl, (hs.2 b (nL b o e)).trans e1⟩
  · obtain ⟨o', e1⟩ := I.base.there b o e hx
    exact ⟨o', (hs.2 b (nL b o e)).trans e1⟩
  · by_cases hj : j = i
    · subst hj
      rw [List.getElem?_set_self iσ] at e2
      cases e2
    · rw [List.getElem?_set_ne (Ne.symm hj)] at e2
      obtain ⟨u', r', q⟩ := hl j y u e1 e2 e3
      refine ⟨u', r', ?_⟩
      rcases q with ⟨k, e⟩ | ⟨k, c, e, z⟩
      · refine .inl ⟨k, ?_⟩
        have : y ≠ n := fun e => hj (nodup_ix hN e1 (e ▸ hi))
        simp [this, e]
      · exact .inr ⟨k, c, e, z.sameBut hs (I.cne y c e)⟩
  · obtain ⟨v', z⟩ := I.cell y c e
    exact ⟨v', z.sameBut hs (I.cne y c e)⟩
  · obtain ⟨e, n, ne, nf, d⟩ := I.pin p hp
    exact ⟨(hs.2 p.1 ne).trans e, n, ne, nf, d⟩
  · refine (I.hok b o e).stay (fun c u hc q => (hs.2 c ?_).trans q) (fun _ q => q) fun _ _ q => q
    rintro rfl
    rcases hc with rfl | hc
    · rw [I.free] at e; cases e
    · rw [I.free] at hc; cases hc
end
end L2
end
section
set_option Elab.async false
set_option linter.all false
set_option maxRecDepth 100000
set_option maxHeartbeats 2000000
namespace L2
open PySem PySem.Spec PyProof.Rows
section
variable {X : Cx}
def tTry (K : PySem.W.Frag) (B : Addr) (i : Nat) (tb : XS → TS) (th : Addr → TS) : TS := fun D σ H => ∃ EX : XS, tb EX D σ H ∧ ∀ cls σ' H' x, EX cls σ' H' → H' x = none →
  ∃ C, cls = .ref C ∧ PySem.W.excIn K C bmVE "ValueError.__new__" = true ∧ subIn K C B = true ∧
    th x { nx := fun σ2 H2 => D.nx (σ2.set i none) H2, rt := D.rt, bk := fun σ2 H2 => D.bk (σ2.set i none) H2, ct := fun σ2 H2 => D.ct (σ2.set i none) H2 } (σ'.set i (some (.ref x))) (upd H' x (ExcO x (.ref C)))
theorem ps_try {i : Nat} {n bn : Str} {B : Addr} {np hpos pos : Pos} {body suite : List Stmt} {b0 : Stmt} {tb : XS → TS} {th : Addr → TS} (hst : X.stack = X.env :: X.outer) (hfr : X.env.frame = some X.env.locals) (hN : X.N.Nodup) (hi : X.N[i]? = some n) (hl : X.env.scope.names.lookup n = some .local)
    (hg : Gl X bn) (hm : X.mg bn = some (.ref B)) (hB : PySem.W.excIn X.K B bmVE "ValueError.__new__" = true)
    (hb : ∀ pn EX, PSs (cxTry X pn EX) body (tb EX)) (hh : ∀ x, PSs (cxHand X x) (b0 :: suite) (th x)) (hdb : (bn == ("__debug__" : Str)) = false := by decide) :
    PS X (.Try body [.ExceptHandler (some (.Name bn np)) (some n) (b0 :: suite) hpos] [] [] pos) (tTry X.K B i tb th) := by
  intro pins s σ H D I h
  obtain ⟨EX, h1, h2⟩ := h
  refine wpAny_Try_except (wpAny_mono (hb pins EX [] s σ H D I.hold h1) (fun f s1 q1 => ?_) fun e s1 q1 => ?_)
  · cases f with
    | next => obtain ⟨σ1, H1, I1, q⟩ := q1; exact wpAny_execs_nil ⟨σ1, H1, I1.unhold, q⟩
    | brk => obtain ⟨σ1, H1, I1, q⟩ := q1; exact ⟨σ1, H1, I1.unhold, q⟩
    | cont => obtain ⟨σ1, H1, I1, q⟩ := q1; exact ⟨σ1, H1, I1.unhold, q⟩
    | ret u => obtain ⟨v, σ1, H1, I1, r, q⟩ := q1; exact ⟨v, σ1, H1, I1.unhold, r, q⟩
  · obtain ⟨x, cls, σ1, H1, rfl, o1, e1⟩ := q1
    have o1 := o1.unhold
    have I1 := o1.1
    refine o1.note hst hfr fun h2' k2 t2 => ?_
    refine set_fl (s := { s1 with heap := h2' }) (fs := frs X.stack) t2 fun h3 k3 t3 => ?_
    have I3 : Inv X pins σ1 H1 { s1 with heap := h3, toks := s1.toks } := I1.flight (k2.trans k3)
    obtain ⟨vs, T, oT, ts, ea, _, _, _, _, _, fx, _⟩ := id t3
    obtain ⟨C, rfl, hC, hsub, q⟩ := h2 cls σ1 H1 x e1 fx.1
    obtain ⟨bm, N, nm, qn, bs, hdct, sn, sub, ab, col, dd, k0, k1, k2', k3', k5, mN, gC, _, _, TC⟩ := exc_cls I3.mod.kin hC
    obtain ⟨bmb, Nb, nmb, qb, bsb, hdctb, snb, subb, abb, colb, ddb, j0, j1, j2, j3, j5, mNb, gB, _, _, TB⟩ := exc_cls I3.mod.kin hB
    have gC3 := I3.bk _ _ gC
    have gB3 := I3.bk _ _ gB
    have hmro : (Value.ref C :: bm).contains (.ref B) = true := by
      unfold subIn at hsub
      split at hsub
      · rename_i ho
        have z := I3.mod.kin _ _ ho
        rw [gC] at z
        cases z
        exact hsub
      · cases hsub
    refine wpAny_handleBy_cons (codeAny_handlers_test ?_) (by intro q; cases q)
    refine ld_glob (X := cxHand X x) I3.hand hg hm ?_ hdb
    obtain ⟨oe, hoe, hoc, _, _⟩ := ea.get
    refine exc_matches gC3 gB3 hoe hoc (TB.hasType PySem.F.excBase_ValueError.hasBase) hmro ?_
    refine codeAny_handlers_suite_as ?_
    refine set_fl (s := { s1 with heap := h3, toks := s1.toks }) (fs := frs X.stack) t3 fun h4 k4 t4 => ?_
    have I4 : Inv X pins σ1 H1 { s1 with heap := h4, toks := s1.toks } := I1.flight ((k2.trans k3).trans k4)
    obtain ⟨vs4, T4, oT4, ts4, ea4, _, _, _, _, _, fx4, _⟩ := id t4
    have I5 : Inv X pins σ1 (upd H1 x (ExcO x (.ref C))) { s1 with heap := h4, toks := s1.toks } := I4.track fx4 ⟨⟨vs4, ea4⟩, by obtain ⟨oe, g, _⟩ := ea4.get; exact ⟨oe, g⟩, fun ha hb ⟨ws, w⟩ kk => by
      obtain ⟨⟨oe, g, r⟩, c⟩ := w
      exact ⟨ws, ⟨⟨oe, kk oe g, r⟩, c⟩⟩⟩
    refine store_ok (v := .ref x) I5 hN hi (.inl hl) rfl (fun s6 I6 => ?_) (.inr hl)
    refine wpAny_mono (hh x pins s6 _ _ _ I6.hand q) (fun f s7 q7 => ?_) fun _ _ z => z.elim
    cases f with
    | next => obtain ⟨σ7, H7, I7, q⟩ := q7; exact name_goes (I7.unhand I.ok) hN hi hl fun s8 I8 => ⟨_, H7, I8, q⟩
    | brk => obtain ⟨σ7, H7, I7, q⟩ := q7; exact name_goes (I7.unhand I.ok) hN hi hl fun s8 I8 => ⟨_, H7, I8, q⟩
    | cont => obtain ⟨σ7, H7, I7, q⟩ := q7; exact name_goes (I7.unhand I.ok) hN hi hl fun s8 I8 => ⟨_, H7, I8, q⟩
    | ret u => obtain ⟨v, σ7, H7, I7, r, q⟩ := q7; exact name_goes (I7.unhand I.ok) hN hi hl fun s8 I8 => ⟨v, _, H7, I8, r, q⟩
end
end L2
end
section
set_option Elab.async false
set_option linter.all false
set_option maxRecDepth 100000
set_option maxHeartbeats 2000000
namespace L2
open PySem PySem.Spec PyProof.Rows
theorem entry_unchain : entryFor table "proto.unchain" = some Builtin.«proto.unchain» := entryFor_of_tree (by kernel_rfl)
section
variable {prog : Program} {w : World} {A : Around} {E : Value → Shared → Prop} {s : Shared}
theorem raise_in {α : Type} {x e : Addr} {cls : Value} {vs es : Array Value} {oe : Obj} {Q : α → Shared → Prop} (hh : A.handled = some (.ref x)) (ea : ExcAt s.heap x cls vs) (he : s.heap.get? e = some oe) (hd : oe.data = .fields es) (z2 : 2 < es.size) (hne : x ≠ e)
    (h : ∀ h', (∀ b o, b ≠ e → s.heap.get? b = some o → h'.get? b = some o) → (∃ o', h'.get? e = some o' ∧ o'.cls = oe.cls) → E (.ref e) { s with heap := h' }) : wpAny (model prog w) A (raiseNew (.ref e) : Sem α) Q E s := by
  obtain ⟨⟨ox, hx, _, _, hxd⟩, hc⟩ := ea
  unfold raiseNew
  refine wpAny_bind (wpAny_handled ?_)
  rw [hh]
  dsimp only
  have n1 : ((Value.ref x : Value) != Value.ref e) = true := by simp [hne]
  rw [if_pos n1]
  refine wpAny_bind (wpAny_holding (wpAny_runValue (codeAny_builtin entry_unchain ?_)))
  unfold Builtin.«proto.unchain»
  dsimp only
  refine wpAny_bind (wpAny_field hx hxd hc ?_)
  rw [if_pos (by rfl)]
  refine wpAny_bind (wpAny_pure ?_)
  refine wpAny_pure ?_
  refine wpAny_bind ?_
  show wpAny _ A (setField (.ref e) 2 (.ref x)) _ _ s
  refine wpAny_setField he hd z2 (wpAny_throw (h _ (fun b o hb g => ?_) ⟨_, Heap.get?_update_self _ he (Obj.isFreed_of_fields (Obj.data_mapFields hd _)), Obj.cls_mapFields _ _⟩))
  rw [Heap.get?_update_other _ _ (Ne.symm hb)]
  exact g
theorem range_end_in {x it : Addr} {cls : Value} {vs : Array Value} {lo left step : Int} {Q : Option Value → Shared → Prop} (hh : A.handled = some (.ref x)) (ea : ExcAt s.heap x cls vs) (hit : IsRangeIter s.heap it lo left step) (hleft : left ≤ 0)
    (hQ : ∀ h', (∀ b o, s.heap.get? b = some o → h'.get? b = some o) → Q none { s with heap := h' }) : wpAny (model prog w) A (pyNext (.ref it)) Q E s := by
  have hT : s.TypeIs (.ref it) "range_iterator" := ⟨_, hit, rfl⟩
  obtain ⟨ox, gx, _⟩ := ea.get
  have xlt := Heap.lt_size gx
  unfold pyNext
  refine wpAny_bind (wpAny_attempt (wpAny_callSpecial?_slot (name := Str.ofString "__next__") hT F.slot_range_iterator_next
    (wpAny_call_entry F.slot_range_iterator_next hT F.entry_range_iterator_next ?_ (F.args_range_iterator_next_1 _))))
  show wpAny _ _ (field (.ref it) 0 >>= _) _ _ s
  refine wpAny_bind (wpAny_field hit rfl (x := rawInt lo) rfl ?_)
  show wpAny _ _ (field (.ref it) 1 >>= _) _ _ s
  refine wpAny_bind (wpAny_field hit rfl (x := rawInt left) rfl ?_)
  show wpAny _ _ (field (.ref it) 2 >>= _) _ _ s
  refine wpAny_bind (wpAny_field hit rfl (x := rawInt step) rfl ?_)
  show wpAny _ _ (if left ≤ 0 then _ else _) _ _ s
  rw [if_pos hleft]
  refine wpAny_bind (wpAny_rule ?_)
  refine wpAny_bind ?_
  show wpAny _ _ (newExc (.type "StopIteration") [] >>= _) _ _ _
  refine wpAny_bind ?_
  simp only [newExc, newTuple]
  refine wpAny_bind (wpAny_newObj_type ?_ (by size_fits))
  refine wpAny_bind (m := firstArgMember _ _) (wpAny_of_eq (a := Value.none) (by first | rfl | (simp only [firstArgMember]; rfl)) ?_)
  refine wpAny_newObj_type ?_ (by size_fits)
  have up : ∀ (o1 o2 : Obj) b o, s.heap.get? b = some o → ((s.heap.push o1).push o2).get? b = some o := fun o1 o2 b o e => Heap.get?_push_of_some _ (Heap.get?_push_of_some _ e)
  obtain ⟨⟨oe, g1, g2, g3, g4⟩, c2⟩ := ea
  refine raise_in (x := x) (cls := cls) (vs := vs) (show A.in1.handled = some (.ref x) from hh) ⟨⟨oe, up _ _ x oe g1, g2, g3, g4⟩, c2⟩ (Heap.get?_push_size _ rfl) rfl (by simp [ownMembersOf]) (by rw [Heap.size_push]; exact Nat.ne_of_lt (Nat.lt_succ_of_lt xlt)) fun h' kk hc' => ?_
  obtain ⟨o', e', ec⟩ := hc'
  refine wpAny_bind (wpAny_isInstance (T := "StopIteration") (b := true) ⟨o', e', ec⟩ isSubtype_stop ?_)
  refine wpAny_pure (hQ _ fun b o e => kk b o ?_ (up _ _ b o e))
  have := Heap.lt_size e
  rw [Heap.size_push]
  exact Nat.ne_of_lt (Nat.lt_succ_of_lt this)
end
end L2
end
section
set_option Elab.async false
set_option linter.all false
set_option maxRecDepth 100000
set_option maxHeartbeats 2000000
namespace L2
open PySem PySem.Spec PyProof.Rows
structure RoomX (k : Nat) (A : Around) (x : Addr) : Prop where
  hd : A.handled = some (.ref x)
  dp : A.depth + 3 * k + 5 < recursionLimit
  un : A.units + 16 * k + 200 < cLine
theorem RoomX.deeper {k : Nat} {A : Around} {x : Addr} (r : RoomX (k + 1) A x) (env : Env) : RoomX k (A.deeper env) x :=
  ⟨r.hd, by have := r.dp; show A.depth + 1 + 3 * k + 5 < _; omega, by have := r.un; show A.units + 3 + 16 * k + 200 < _; omega⟩
theorem Room.hand {k : Nat} {A : Around} (r : Room k A) (x : Addr) : RoomX k (A.mark (some (.ref x))) x := ⟨rfl, r.dp, r.un⟩
structure FnX (P : Program) (w : World) (K : PySem.W.Frag) (mg : Str → Option Value) (base : Heap) (k : Nat) (f : Addr) (fd : FuncData) (ps : List Str) (sp : Addr → List V → Hp → VK → Prop) : Prop where
  len : ∀ x vs H Q, sp x vs H Q → vs.length = ps.length
  run : ∀ (x : Addr) (A : Around) (outer : List Env) (s : Shared) (H : Hp) (args : Args) (us : List Value) (vs : List V) (Q : VK), RoomX k A x → Env0 P w K mg base A outer s H → BindsTo s fd args (ps.zip us) → Vals vs us → sp x vs H Q →
    codeAny (model P w) A (.call (.ref f) args) (CR CX0 outer P w H s Q E0) s
theorem Fun.okX {P : Program} {w : World} {K : PySem.W.Frag} {mg : Str → Option Value} {base : Heap} {y qual : Str} {st : Stmt} {f : Addr} {fd : FuncData} {N ps : List Str} {k : Nat} {sp : Addr → List V → Hp → VK → Prop} (F : Fun K y qual st f fd) (S : FnScope N ps (defScope st))
    (len : ∀ x vs H Q, sp x vs H Q → vs.length = ps.length)
    (hbody : ∀ (x : Addr) (cdv : Value) (A : Around) (outer : List Env) (s : Shared) (H : Hp) (vs : List V) (Q : VK), RoomX k (A.deeper (envOfC qual (defScope st) s.heap.objs.size f cdv)) x → sp x vs H Q →
      ∃ t, PSs (cxOf CX0 P w K mg base N qual (defScope st) f cdv A outer s H E0).nox (defBody st) t ∧ t { nx := fun _ H' => Q .non H', rt := Q } (start N vs) H) : FnX P w K mg base (k + 1) f fd ps sp := by
  obtain ⟨oc, od, kV, doc, pm, an, cdv, ct, osl, rfl, lk, hcd⟩ := F.ex
  refine ⟨len, fun x A outer s H args us vs Q hr e0 hb r hsp => ?_⟩
  have hl := len _ _ _ _ hsp
  have KX : K.In s.heap := e0.mod.kin.keeps fun b o e => (e0.bs b o e).1
  have lim : s.heap.NoLimit := e0.mod.nolimit.keeps fun b o e => (e0.bs b o e).1
  have hkind : ∀ z ∈ ps.zip us, (defScope st).names.lookup z.1 = some .local ∨ ((defScope st).names.lookup z.1 = some .cell ∧ ((cellsFrom (s.heap.objs.size + 1) (defScope st).names []).lookup z.1).isSome = true) := fun ⟨n, v⟩ hy => by
    rcases S.par n (List.of_mem_zip hy).1 with q | q
    · exact .inl q
    · exact .inr ⟨q, PySem.W.cellsFrom_some _ _ _ (.inl q)⟩
  refine codeAny_call_function (by have := hr.dp; omega) (KX _ _ lk) rfl S.co S.gen rfl (PySem.W.codeRec_of KX hcd) (hb _ _ _ _ ?_)
  refine wpAny_newFunctionEnv_cells S.kind hkind fun env he s1 x1 => ?_
  subst he
  refine ⟨lim.keeps x1.toInCall.keep, codeAny_func ?_⟩
  obtain ⟨t, ht, hq⟩ := hbody x cdv A outer s H vs Q (hr.deeper _) hsp
  have I : Inv (cxOf CX0 P w K mg base N qual (defScope st) f cdv A outer s H E0) [] (start N vs) H s1 := inv_start S e0 hl r x1
  refine wpAny_mono (ht.nox [] s1 (start N vs) H _ I hq) (fun fl s' hs => ?_) fun e s' hs => hs
  cases fl with
  | ret u =>
    obtain ⟨v, σ', H', J, rv, q⟩ := hs
    exact ⟨v, H', J.os, J.bare, J.base, J.hok, rv, q⟩
  | next =>
    obtain ⟨σ', H', J, q⟩ := hs
    exact ⟨.non, H', J.os, J.bare, J.base, J.hok, rfl, q⟩
  | brk =>
    obtain ⟨_, _, _, q⟩ := hs
    exact False.elim q
  | cont =>
    obtain ⟨_, _, _, q⟩ := hs
    exact False.elim q
def tCallH (sp : Addr → List V → Hp → VK → Prop) (x : Addr) (t : TA) : TE := fun σ H Q => t σ H fun vs H1 => sp x vs H1 Q
theorem pe_callH {X : Cx} {k : Nat} {f x : Addr} {fd : FuncData} {ps : List Str} {sp : Addr → List V → Hp → VK → Prop} {y : Str} {p pos : Pos} {e : Expr} {es : List Expr} {t : TA} (F : FnX X.prog X.w X.K X.mg X.base k f fd ps sp) (hr : RoomX k X.A x) (hg : Gl X y) (hm : X.mg y = some (.ref f)) (hk : PySem.W.keepIn X.K (.ref f) = true) (hb : Binds X.K fd ps [])
    (ha : PA X (e :: es) t) (hdb : (y == ("__debug__" : Str)) = false := by decide) (he : starEach (e :: es) X.env = (false, eval e X.env) :: starEach es X.env := by rfl) (hpl : (backTo pos (starEach es X.env)).any (·.1) = false := by rfl) :
    PE X (.Call (.Name y p) (e :: es) [] pos) (tCallH sp x t) := by
  intro pins s σ H Q I h
  refine wpAny_Call_Name_kw (ld_glob I hg hm ?_ hdb)
  refine PySem.W.callWith_K (h₀ := X.base) I.ok.mod.kin hk (thn (ha pos pins s σ H _ I h) fun us s1 ⟨vs, H1, I1, r, q⟩ => ⟨I1.kIn, ?_⟩) he hpl
  have hl : (us ++ []).length = ps.length := by rw [List.append_nil, ← r.length]; exact F.len _ _ _ _ q
  have hb' := hb s1 us I1.kIn hl
  rw [List.append_nil] at hb'
  refine wpAny_call (codeAny_mono (F.run x X.A X.stack s1 H1 ⟨us, []⟩ us vs Q hr I1.env0 hb' r q) fun r s' hq => ?_)
  cases r with
  | error e => exact False.elim hq
  | ok fl =>
    cases fl with
    | ret u => exact I1.after hq
    | next => exact False.elim hq
    | brk => exact False.elim hq
    | cont => exact False.elim hq
def Itx (x : Addr) (cls : Value) (n : Nat) : It := ⟨fun i _ => i < n, fun i H v H' => H' = H ∧ v = .int i, fun i H => n ≤ i ∧ H x = some (ExcO x cls)⟩
theorem turnAt_x {X : Cx} {tg : Expr} {x it : Addr} {cls : Value} {n : Nat} (hh : X.A.handled = some (.ref x)) :
    TurnAt X tg (Itx x cls n) [it] it (fun i h => IsRangeIter h it (i : Int) ((n : Int) - (i : Nat)) 1) where
  item := by
    intro i pins s σ H E I hf st hg
    obtain ⟨f0, f1, f2, f3, f4, f5⟩ := hf it (by simp)
    have hi : i < n := hg
    refine wpAny_pyNext_range_item st (by omega) fun h' st' sb => ?_
    have I1 : Inv X pins σ H { s with heap := h', toks := s.toks + 1 } := I.turned (fun b o hb e => (sb.2 b hb).trans e) f0 f1 f3 f4 f5
    have st2 : IsRangeIter h' it ((i + 1 : Nat) : Int) ((n : Int) - ((i + 1 : Nat) : Int)) 1 := by
      have e1 : ((i + 1 : Nat) : Int) = (i : Int) + 1 := by omega
      have e2 : (n : Int) - ((i : Int) + 1) = (n : Int) - (i : Int) - 1 := by omega
      rw [e1, e2]; exact st'
    exact ⟨_, rfl, go_of (s := { s with heap := h', toks := s.toks + 1 }) (n := "range_iterator") st' rfl rfl (by decide) ⟨.int i, H, I1, ⟨_, rfl⟩, ⟨rfl, rfl⟩, st2, fun b hb => (hf b hb).1⟩⟩
  done := by
    intro i pins s σ H E I hf st hg
    obtain ⟨hi, hx⟩ := hg
    obtain ⟨⟨vs, ea⟩, _⟩ := I.hok x _ hx
    exact range_end_in hh ea st (by omega) fun h' kk => ⟨rfl, I.kept (t' := s.toks) kk⟩
theorem range_itX {X : Cx} {pins : List (Addr × Obj)} {σ : St} {H : Hp} {s : Shared} {E : Value → Shared → Prop} {hi : Int} {t u v : Tok} {tk : Nat} {Q : Value → Shared → Prop} (I : Inv X pins σ H s) (h3 : -(2 ^ 62) ≤ hi) (h4 : hi < 2 ^ 62)
    (q : ∀ it s2, Inv X pins σ H s2 → IsRangeIter s2.heap it 0 ((hi.toNat : Nat) : Int) 1 → (∀ b ∈ [it], FpOk X pins H b) → Q (.ref it) s2) :
    wpAny (model X.prog X.w) X.A (pyIter (.ref s.heap.objs.size)) Q E { s with heap := s.heap.push { cls := .type "range", data := .fields #[.int 0 t, .int hi u, .int 1 v] }, toks := tk } := by
  refine wpAny_pyIter_range (IsRange.new ..) (small_one (by decide) (by decide) h3 h4) ?_
  have I1 : Inv X pins σ H { s with heap := s.heap.push { cls := .type "range", data := .fields #[.int 0 t, .int hi u, .int 1 v] }, toks := tk } := I.kept fun b o e => Heap.get?_push_of_some _ e
  refine q _ _ (I1.kept (t' := tk) fun b o e => Heap.get?_push_of_some _ e) ?_ fun b hb => ?_
  · have e2 : ((hi.toNat : Nat) : Int) = Builtin.Range.rangeSize 0 hi 1 := by rw [rangeSize_one]; split <;> omega
    rw [e2]
    exact Heap.get?_push_size _ rfl
  · have e : b = (s.heap.push { cls := .type "range", data := .fields #[.int 0 t, .int hi u, .int 1 v] }).objs.size := by simpa using hb
    subst e
    exact I1.fpOk (Nat.le_refl _) (I1.hok.fresh (Nat.le_refl _))
theorem pe_compX {X : Cx} {scope : Scope} {ts cap : List Str} {js : List Nat} {tg elt a : Expr} {ifs : List Expr} {p pos cpos : Pos} {g : TG} {tc : TT} {te : TE} {ta : TA} {x : Addr} (hh : X.A.handled = some (.ref x)) (CS : CompScope X scope ts cap js)
    (hgl : Gl X "range") (hm : X.mg "range" = none) (ha : PA X [a] ta) (hg : ∀ C fp s H, PG (cxComp X scope C fp (ts ++ cap) s H) tg g)
    (ht : ∀ C fp s H, PTs (cxComp X scope C fp (ts ++ cap) s H) ifs tc) (he : ∀ C fp s H, PE (cxComp X scope C fp (ts ++ cap) s H) elt te)
    (hst : starEach [a] X.env = [(false, eval a X.env)] := by rfl) (hs : ∀ v, foldedSetIterable (.Call (.Name "range" p) [a] [] cpos) X.env v = pure v := by intro _; rfl) :
    PE X (.ListComp elt [⟨tg, .Call (.Name "range" p) [a] [] cpos, ifs, 0⟩] scope pos)
      (tComp (fun σ H R => ta σ H fun vs H1 => ∃ (j : Int) (cls : Value), vs = [.int j] ∧ -(2 ^ 62) ≤ j ∧ j < 2 ^ 62 ∧ R (Itx x cls j.toNat) H1) ts.length js g tc te) := by
  intro pins s σ H Q I h
  rw [eval_ListComp]
  refine wpAny_comprehension_free (use := none) rfl hs (closureFor_eq (CS.cells I.ok)) CS.kind CS.names ?_
  show wpAny _ _ (eval (.Call (.Name "range" p) [a] [] cpos) X.env) _ _ s
  refine Call_ (ld_blt I hgl hm boot_range (PyProof.Rows.callWith_type1 (thn (ha cpos pins s σ H _ I h) fun us s1 ⟨vs, H1, I1, r1, q1⟩ => ?_) hst rfl))
  obtain ⟨j, cls, e, q2, q3, W, ⟨m0, w0⟩, turn⟩ := q1
  subst e
  obtain ⟨u, rfl, ru⟩ := vals1 r1
  obtain ⟨tk, rfl⟩ := ru
  refine call_range_1 (range_itX I1 q2 q3 fun it s2 I2 st2 f2 => ?_)
  have T : TurnOk X.prog X.w [it] it (fun i h => IsRangeIter h it (i : Int) (((j.toNat : Nat) : Int) - (i : Nat)) 1) := ⟨fun i h st b hb => by
      have e : b = it := by simpa using hb
      subst e
      exact ⟨_, st, fun v z => by cases z⟩, fun i h h' st k => k it (by simp) _ st, fun _ _ _ _ _ st h => wpAny_pyIter_rangeiter st h⟩
  refine comp_blockG (J := Itx x cls j.toNat) (RR := fun acc C => compPost (model X.prog X.w) X.A X.xe none (EP X pins σ Q) acc C) I2 T (fun C => turnAt_x (X := cxComp X scope C [it] (ts ++ cap) s2 H1) hh) (by simpa using st2) f2 CS hg ht he w0 turn ?_
  intro D C s' H' ys m I' hn hC hD hCD hHC hHD fin
  have low : ∀ b o, s2.heap.get? b = some o → b ≠ C := fun b o e => Nat.ne_of_lt (Nat.lt_of_lt_of_le (Heap.lt_size e) hC)
  refine ⟨m, hn, fun h' hs' => ⟨.ref D, _, comp_gone (n0 := 0) I' (Heap.get?_none_of_le (Nat.le_trans I2.sz hC)) (Nat.ne_of_lt (Nat.lt_of_lt_of_le I2.lt hC)) (fun x c e => ?_) (fun p hp => ?_) (by rw [upd_ne hCD]; exact hHC) hs', rfl, fin D hHD⟩⟩
  · obtain ⟨v, o, ho, _⟩ := I2.cell x c e
    exact low c o ho
  · exact low _ _ (I2.pin p hp).1
end L2
end
section
set_option Elab.async false
set_option linter.all false
set_option maxRecDepth 100000
set_option maxHeartbeats 4000000
namespace L2
open PySem PySem.Spec PyProof.Rows PySem.W
section
variable {prog : Program} {w : World} {A : Around} {E : Value → Shared → Prop} {s : Shared} {K : Frag} {x C : Addr} {ox : Obj}
structure ExcK (K : Frag) (C : Addr) : Prop where
  ga : findIn K (.ref C) "__getattribute__" = some (some (.builtin "BaseException.__getattribute__"))
  gt : findIn K (.ref C) "__getattr__" = some none
  ca : findIn K (.ref C) "__class__" = some (some (.builtin "object.__class__"))
  gn : specialIn K (.builtin "object.__class__") "__get__" = some (some (.builtin "getset_descriptor.__get__"))
  tk : takesIn K (.builtin "object.__class__") = some true
  mo : mroIn K C (.type "object") = some true
  mb : mroIn K C (.type "BaseException") = some true
  cl : (clsIn K C).isSome = true
theorem exc_ga_check {M : Model} {nameV : Value} {Q : Unit → Shared → Prop} (Z : ExcK K C) (X : K.In s.heap) (I : InstAt s.heap x ox C none) (hq : Q () s) : wpAny M A (checkBuiltinCall "BaseException.__getattribute__" ⟨[.ref x, nameV], []⟩) Q E s := by
  have hk : builtinKind "BaseException.__getattribute__" = some .slot := by decide +kernel
  have hsplit : splitId "BaseException.__getattribute__" = some ("BaseException", "__getattribute__") := by decide +kernel
  have ha := F.args_bexc_ga (.ref x) nameV
  have L0 := I.type (M := M)
  have L1 := looks_mroIn (M := M) X Z.mb
  obtain ⟨h, g, d, t, os⟩ := s
  simp only [checkBuiltinCall, hk, hsplit]
  refine wpAny_bind ?_
  unfold isInstance
  refine wpAny_bind (L0.at (L1.at ?_))
  repeat (first | wp_step)
  exact hq
theorem exc_entry {tk : Tok} {Q : Fin → Shared → Prop} (Z : ExcK K C) (X : K.In s.heap) (I : InstAt s.heap x ox C none) (hq : Q (.done (.ret (.ref C))) s) :
    wpAny (model prog w) A (Builtin.«object.__getattribute__» ⟨[.ref x, .str "__class__" tk], []⟩) Q E s := by
  have f5 : typeOf (.builtin "object.__class__") = pure (.type "getset_descriptor") := by show builtinType _ = _; rw [builtinType_eq_fast]; kernel_rfl
  have f6 := F.slot_gs_get.lookup
  have f7 := F.slot_gs_set.lookup
  have L0 := I.type (M := model prog w)
  have L1 := looks_findIn (M := model prog w) X Z.ca
  obtain ⟨h, g, d, t, os⟩ := s
  have ho := I.at_
  have hc := I.cls
  repeat (any_goals (first | assumption | with_reducible refine L0.at ?_ | with_reducible refine L1.at ?_ | (with_reducible refine wpAny_loadPart_at ho ?_; rw [hc]) | wp_step))
  exact class_get (ox := ox) (od := none) X I Z.mo (wpAny_pure hq)
theorem exc_attr {Q : Option Value → Shared → Prop} (Z : ExcK K C) (X : K.In s.heap) (I : InstAt s.heap x ox C none) (hq : Q (some (.ref C)) { s with toks := s.toks + 1 }) : wpAny (model prog w) A (getAttr? (.ref x) "__class__") Q E s := by
  have f3 := PySem.F.attr_ValueError.ga.bind (.ref x)
  have hx2 : (Value.builtin "BaseException.__getattribute__" == Value.builtin "object.__getattribute__") = false := by decide +kernel
  have hx1 : (onTheHeap (Value.ref C) && Value.builtin "BaseException.__getattribute__" == Value.builtin "object.__getattribute__") = false := by rw [hx2]; rfl
  have hx0 : (false && onTheHeap (Value.builtin "BaseException.__getattribute__")) = false := rfl
  have L0 := I.type (M := model prog w)
  have L1 := looks_findIn (M := model prog w) X Z.ga
  have L2 := looks_findIn (M := model prog w) X Z.gt
  obtain ⟨h, g, d, t, os⟩ := s
  have ho := I.at_
  have hc := I.cls
  unfold getAttr? getAttrBy?
  refine wpAny_bind (wpAny_mkText (wpAny_bind (wpAny_attempt ?_)))
  unfold getAttrBy
  refine wpAny_holding (wpAny_bind (L0.at (wpAny_bind (L1.at ?_))))
  dsimp only
  rw [if_neg (by rw [hx1]; exact Bool.false_ne_true)]
  repeat (any_goals (first | assumption | with_reducible refine L2.at ?_ | wp_step))
  refine codeAny_call_builtin PySem.F.attr_ValueError.ga.plain F.entry_bexc_ga (exc_ga_check (s := ⟨h, g, d, t + 1, os⟩) Z X I (exc_entry (s := ⟨h, g, d, t + 1, os⟩) Z X I ?_))
  exact handed_on rfl (wpAny_pure hq)
theorem kitx_exc (Z : ExcK K C) : KitX K (.ref x) (.ref C) (fun h => ∃ ox, InstAt h x ox C none) where
  ty := fun _ _ _ ⟨_, I⟩ => I.type
  it := fun _ _ X _ => by
    obtain ⟨cd, hc⟩ := Option.isSome_iff_exists.mp Z.cl
    unfold clsIn at hc
    split at hc
    · rename_i c' d' cd' sl' ho
      intro A' Q' E' s' k q
      unfold isType loadHead
      exact wpAny_bind (wpAny_loadPart (k _ _ (X _ _ ho)) (wpAny_pure q))
    · cases hc
  ne := fun h tp dd its n sl X htp => by
    obtain ⟨cd, hc⟩ := Option.isSome_iff_exists.mp Z.cl
    refine Bool.eq_false_iff.mpr fun q => ?_
    have e : C = tp := Value.ref.inj (beq_iff_eq.mp q)
    subst e
    unfold clsIn at hc
    split at hc
    · rename_i c' d' cd' sl' ho
      have z := (X _ _ ho).symm.trans htp
      cases z
    · cases hc
  ca := fun X ⟨_, I⟩ k => exc_attr Z X I k
def rIsX (K : Frag) : List V → Hp → VK → Prop := fun xs H Q => ∃ x y C c b, xs = [.ref x, y] ∧ clsV y = some c ∧ H x = some (ExcO x (.ref C)) ∧ ExcK K C ∧ kitOne K (.ref C) c = some b ∧ Q (.bl b) H
theorem call_isX {X : Cx} : CallR X (.builtin "isinstance") (rIsX X.K) := by
  intro pins s σ H xs us Q I r h
  obtain ⟨x, y, C, c, b, rfl, ec, hx, Z, e, q⟩ := h
  obtain ⟨u, u', rfl, rx, ry⟩ := vals2 r
  cases rx
  have : u' = c := by
    cases y with
    | ref _ => cases ry; exact Option.some.inj ec
    | ty _ => cases ry; exact Option.some.inj ec
    | _ => cases ec
  subst this
  obtain ⟨⟨vs, ⟨⟨oe, g1, g2, g3, g4⟩, _⟩⟩, _⟩ := I.hok x _ hx
  have J : InstAt s.heap x oe C none := ⟨g1, g2, by unfold notCls; rw [g4], by rw [g3]; trivial⟩
  exact kia_one (kitx_exc Z) I.kIn ⟨oe, J⟩ e (fun z => nomatch z) fun tk => ⟨.bl b, H, I.tok _, rfl, q⟩
end
end L2
end
section
set_option Elab.async false
set_option linter.all false
set_option maxRecDepth 100000
set_option maxHeartbeats 1000000
namespace L2
open PySem PySem.Spec PyProof.Rows
section
variable {X : Cx}
def rCatA (K : PySem.W.Frag) : R2 := fun x y H Q => ∃ a b xs ys, x = .ref a ∧ y = .ref b ∧ SqT K H a xs ∧ SqT K H b ys ∧ xs.length + ys.length ≤ sizeLine ∧
  (xs = [] → Q (.ref b) H) ∧ (xs ≠ [] → ys = [] → Q (.ref a) H) ∧ (xs ≠ [] → ys ≠ [] → ∀ p, H p = none → Q (.ref p) (upd H p (.tup (xs ++ ys))))
def rTupOf (K : PySem.W.Frag) : List V → Hp → VK → Prop := fun xs H Q => ∃ p ys, xs = [.ref p] ∧ ((SqL K H p ys ∧ ∀ l, H l = none → Q (.ref l) (upd H l (.tup ys))) ∨ (SqT K H p ys ∧ Q (.ref p) H))
end
end L2
end
section
set_option Elab.async false
set_option linter.all false
set_option maxRecDepth 100000
set_option maxHeartbeats 1000000
namespace L2
open PySem PySem.Spec PyProof.Rows
def cutN {α : Type} (xs : List α) (lo hi : Option Int) : List α := (xs.drop (HT.sIx xs.length 0 lo)).take (HT.sIx xs.length xs.length hi - HT.sIx xs.length 0 lo)
theorem idx_eq (lo hi : Option Int) (n : Nat) : Builtin.Str.strSliceIndices lo hi 1 n = (List.range (HT.sIx n n hi - HT.sIx n 0 lo)).map fun k => HT.sIx n 0 lo + k := by
  have clipA : ∀ v : Int, max 0 (min (if v < 0 then v + (n : Int) else v) (n : Int)) = (((if v < 0 then (v + (n : Int)).toNat else min v.toNat n) : Nat) : Int) := fun v => by
    split <;> omega
  have key : ∀ i j : Nat, sliceRange (i : Int) (j : Int) 1 = (List.range (j - i)).map fun k => i + k := fun i j => by
    unfold sliceRange
    simp only [show (1 : Int) > 0 by decide, if_true]
    have e : (if (i : Int) < (j : Int) then ((j : Int) - (i : Int) + 1 - 1) / 1 else 0).toNat = j - i := by
      split <;> omega
    rw [e]
    apply List.map_congr_left
    intro k _
    omega
  have lo' : (match lo with | none => (0 : Int) | some i => max 0 (min (if i < 0 then i + (n : Int) else i) (n : Int))) = ((HT.sIx n 0 lo : Nat) : Int) := by
    cases lo with
    | none => rfl
    | some v => exact clipA v
  have hi' : (match hi with | none => (n : Int) | some i => max 0 (min (if i < 0 then i + (n : Int) else i) (n : Int))) = ((HT.sIx n n hi : Nat) : Int) := by
    cases hi with
    | none => rfl
    | some v => exact clipA v
  rw [← key, ← lo', ← hi']
  rfl
theorem pick_list {α : Type} (xs : List α) (i m : Nat) (h : i + m ≤ xs.length) : ((List.range m).map fun k => i + k).filterMap (fun j => xs[j]?) = (xs.drop i).take m := by
  induction m with
  | zero => simp
  | succ m ih =>
    have hm : i + m < xs.length := by omega
    rw [List.range_succ, List.map_append, List.filterMap_append, ih (by omega), List.take_add_one, List.getElem?_drop, List.getElem?_eq_getElem hm]
    simp [hm]
theorem slice_list (z : Str) (lo hi : Option Int) : (Txt.slice z lo hi).cps.toList = cutN z.cps.toList lo hi := by
  have hn : z.length = z.cps.toList.length := rfl
  unfold Txt.slice
  have e := idx_eq lo hi z.length
  have h1 := HT.sIx_le z.length 0 (Nat.zero_le _) lo
  have h2 := HT.sIx_le z.length z.length (Nat.le_refl _) hi
  rw [e]
  split
  · rename_i c
    have c' : (HT.sIx z.length z.length hi - HT.sIx z.length 0 lo) = z.length := by
      have := (Bool.and_eq_true _ _ ▸ c).2
      simpa using this
    unfold cutN
    rw [← hn]
    have a0 : HT.sIx z.length 0 lo = 0 ∨ z.length = 0 := by omega
    rcases a0 with a0 | a0
    · rw [c', a0, List.drop_zero]
      exact (List.take_of_length_le (by rw [← hn]; exact Nat.le_refl _)).symm
    · have : z.cps.toList = [] := List.length_eq_zero_iff.mp (by rw [← hn]; exact a0)
      rw [this]; simp
  · show ((List.map _ _).filterMap _).toArray.toList = _
    unfold cutN
    rw [← hn]
    have e2 : (fun j : Nat => z.cps[j]?) = fun j : Nat => z.cps.toList[j]? := by funext j; rw [Array.getElem?_toList]
    rw [List.toList_toArray, e2]
    by_cases hle : HT.sIx z.length 0 lo ≤ HT.sIx z.length z.length hi
    · exact pick_list _ _ _ (by rw [← hn]; omega)
    · have : HT.sIx z.length z.length hi - HT.sIx z.length 0 lo = 0 := by omega
      rw [this]; simp
section
variable {X : Cx}
def rSlS : V → Option Int → Option Int → Hp → VK → Prop := fun x lo hi H Q => ∃ z, x = .str z ∧ z.length ≤ sizeLine ∧ Q (.str (Txt.slice z lo hi)) H
theorem sl_str : SlR X rSlS := by
  intro pins s σ H x v vl vu lo hi sl Q I rx hs pl pu q
  obtain ⟨z, rfl, hz, q⟩ := q
  obtain ⟨t, rfl⟩ := rx
  refine ⟨"str", _, PySem.F.slot_str_getitem.lookup, typeIs_str _ _ _, ?_⟩
  obtain ⟨l', e1, e1'⟩ : ∃ l' : Option (Int × Tok), vl = partValue l' ∧ l'.map (·.1) = lo := by
    cases pl with
    | none => exact ⟨none, rfl, rfl⟩
    | int i t => exact ⟨some (i, t), rfl, rfl⟩
  obtain ⟨u', e2, e2'⟩ : ∃ l' : Option (Int × Tok), vu = partValue l' ∧ l'.map (·.1) = hi := by
    cases pu with
    | none => exact ⟨none, rfl, rfl⟩
    | int i t => exact ⟨some (i, t), rfl, rfl⟩
  subst e1 e2 e1' e2'
  refine wpAny_getItem_str_slice (l := l') (u := u') (st := none) hs rfl (post_val_or_str ⟨?_, fun t' k => ⟨.str (Txt.slice z (l'.map (·.1)) (u'.map (·.1))), H, I.tok _, ⟨_, rfl⟩, q⟩⟩)
  exact Nat.le_trans (Txt.slice_le z (l'.map (·.1)) (u'.map (·.1))) hz
def rMulS : R2 := fun x y H Q => ∃ z n, x = .str z ∧ y = .int n ∧ -(2 ^ 63) ≤ n ∧ n < 2 ^ 63 ∧ z.length * n.toNat ≤ 16777216 ∧ Q (.str (Txt.mul z n)) H
theorem op_mulS : OpR X (binaryOp .Mult) rMulS := by
  intro pins s σ H x y v u Q I rx ry h
  obtain ⟨z, n, rfl, rfl, h0, h1, hz, q⟩ := h
  obtain ⟨t, rfl⟩ := rx
  obtain ⟨t', rfl⟩ := ry
  refine SB.mul ⟨?_, fun hn _ hc => ?_, fun hn _ => ?_⟩ fun tk k => ⟨.str _, H, I.tok _, ⟨_, rfl⟩, q⟩
  · rw [decide_eq_false (by omega), decide_eq_false (by omega)]; rfl
  · have hn' : 1 ≤ n := by omega
    have e : ((z.length * n.toNat : Nat) : Int) = (z.length : Int) * n := by
      rw [Int.natCast_mul, Int.toNat_of_nonneg (by omega)]
    have h3 : (z.length : Int) * n ≤ 16777216 := by rw [← e]; omega
    have h4 : (z.length : Int) ≤ (2 ^ 63 - 1) / n := by
      rw [Int.le_ediv_iff_mul_le (by omega)]
      omega
    omega
  · unfold Builtin.Str.tooLong
    exact decide_eq_false (by rw [sizeLine_eq]; omega)
end
theorem fold_rep (a : Array Nat) : ∀ (n : Nat) (acc : Array Nat), ((List.replicate n a).foldl (· ++ ·) acc).toList = acc.toList ++ (List.replicate n a.toList).flatten
  | 0, acc => by simp
  | n + 1, acc => by
    rw [List.replicate_succ, List.foldl_cons, fold_rep a n, List.replicate_succ, List.flatten_cons, Array.toList_append, List.append_assoc]
theorem mul_list (z : Str) (n : Int) : (Txt.mul z n).cps.toList = (List.replicate n.toNat z.cps.toList).flatten := by
  unfold Txt.mul
  split
  · have : n.toNat = 0 := by omega
    rw [this]; rfl
  · split
    · rename_i hn c
      have c' : n = 1 ∨ z.length = 0 := by simpa using c
      rcases c' with rfl | c'
      · simp
      · have : z.cps.toList = [] := List.length_eq_zero_iff.mp c'
        rw [this]
        simp
    · show ((List.replicate n.toNat z.cps).foldl (· ++ ·) #[]).toList = _
      rw [fold_rep]; simp
section
variable {X : Cx}
def rMinT (K : PySem.W.Frag) : List V → Hp → VK → Prop := fun xs H Q => ∃ (p : Addr) (ns : List Int), xs = [.ref p] ∧ SqT K H p (ns.map V.int) ∧ ns ≠ [] ∧ ∀ m, m ∈ ns → (∀ n ∈ ns, m ≤ n) → Q (.int m) H
def rSumT (K : PySem.W.Frag) : List V → Hp → VK → Prop := fun xs H Q => ∃ (p : Addr) (ns : List Int), xs = [.ref p] ∧ SqT K H p (ns.map V.int) ∧ Q (.int ns.sum) H
end
end L2
end
section
set_option Elab.async false
set_option linter.all false
set_option maxRecDepth 100000
set_option maxHeartbeats 1000000
namespace L2
open PySem PySem.Spec PyProof.Rows
def CDivB (_ j : Int) : Prop := 0 < j ∧ j < 1000000000000000000000000000000000
theorem op_fdivB {X : Cx} : OpR X (binaryOp .FloorDiv) (rI CDivB fun i j => .int (i / j)) := opI fun i j _ _ _ _ _ hc q => by
  have h1 : (0 : Int) < j := hc.1
  have h2 : j < 1000000000000000000000000000000000 := hc.2
  refine floordiv_int (by omega) (by rw [Int.fdiv_eq_ediv_of_nonneg i (by omega)]; exact q) (.inl (PyProof.noPylong_of_log2 ?_))
  refine Nat.lt_of_lt_of_le ((Nat.log2_lt (by omega)).mpr (show j.natAbs < 2 ^ 111 by omega)) (by decide)
def ModD (P : Program) (w : World) (K : PySem.W.Frag) (a : Addr) (kvs : List (Key × V)) : Prop := ∀ h : Heap, K.In h → (a == sysModules) = false ∧ ∃ vs, KV kvs vs ∧ h.DictOf (mixKind P w) a vs
def tDGetM (a : Addr) (kvs : List (Key × V)) (td ty : TE) : TE := fun σ H Q => td σ H fun x H1 => ty σ H1 fun y H2 => ∃ k v, x = .ref a ∧ y = kV k ∧ valV kvs k = some v ∧ Q v H2
def tDInM (a : Addr) (kvs : List (Key × V)) (ty td : TE) : TE := fun σ H Q => ty σ H fun y H1 => td σ H1 fun x H2 => ∃ k, x = .ref a ∧ y = kV k ∧ Q (.bl (valV kvs k).isSome) H2
section
variable {X : Cx} {o i : Expr} {pos : Pos} {td ty : TE} {a : Addr} {kvs : List (Key × V)}
end
end L2
end
section
set_option Elab.async false
set_option linter.all false
set_option maxRecDepth 100000
set_option maxHeartbeats 1000000
namespace L2
open PySem PySem.Spec PyProof.Rows
def Ite (K : PySem.W.Frag) (a : Addr) : It :=
  ⟨fun i H => ∃ xs x, SqL K H a xs ∧ xs[i]? = some x, fun i H v H' => ∃ p x, H p = none ∧ v = .ref p ∧ H' = upd H p (.tup [.int i, x]) ∧ ∀ xs, SqL K H a xs → xs[i]? = some x, fun i H => ∃ xs, SqL K H a xs ∧ xs.length ≤ i⟩
section
variable {X : Cx}
def iEnum (K : PySem.W.Frag) (ta : TA) : TI := fun σ H R => ta σ H fun vs H1 => ∃ a, vs = [.ref a] ∧ (∃ xs, SqL K H1 a xs) ∧ R (Ite K a) H1
def rEnds : V → List V → Hp → VK → Prop := fun x vs H Q => ∃ z y, x = .str z ∧ vs = [.str y] ∧ Q (.bl (Txt.endswith z y)) H
def rStarts : V → List V → Hp → VK → Prop := fun x vs H Q => ∃ z y, x = .str z ∧ vs = [.str y] ∧ Q (.bl (Txt.startswith z y)) H
theorem mt_starts : MtR X "str.startswith" rStarts := by
  intro pins s σ H x vs v us Q I rx rv h
  obtain ⟨z, y, rfl, rfl, q⟩ := h
  obtain ⟨t, rfl⟩ := rx
  obtain ⟨u, rfl, t', rfl⟩ := rv.one
  exact SC.startswith ⟨.bl _, H, I, rfl, q⟩
end
end L2
end
section
set_option Elab.async false
set_option linter.all false
set_option maxRecDepth 100000
set_option maxHeartbeats 2000000
namespace L2
open PySem PySem.Spec PyProof.Rows
open PySem.SeqAt
open PySem.AutoSeq1 (wpAny_loadPart')
open PySem.MeetsSeq PySem.MeetsSeq2 PySem.MeetsSeq3
def pairLt (a c : Int) (ns ms : List Int) : Bool := if a = c then HT.lexLt ns ms else decide (a < c)
end L2
end
section
set_option Elab.async false
set_option linter.all false
set_option maxRecDepth 100000
set_option maxHeartbeats 2000000
namespace L2
open PySem PySem.Spec PyProof.Rows
def CallK (X : Cx) (f : Value) (ks : List Str) (r : List V → List V → Hp → VK → Prop) : Prop :=
  ∀ (pins : List (Addr × Obj)) (s : Shared) (σ : St) (H : Hp) (xs zs : List V) (us ws : List Value) (Q : VK), Inv X pins σ H s → Vals xs us → Vals zs ws → r xs zs H Q →
    wpAny (model X.prog X.w) X.A (call f us (ks.zip ws)) (EP X pins σ Q) X.xe s
def tCBK (r : List V → List V → Hp → VK → Prop) (t tk : TA) : TE := fun σ H Q => t σ H fun vs H1 => tk σ H1 fun zs H2 => r vs zs H2 Q
end L2
end
section
set_option Elab.async false
set_option linter.all false
set_option maxRecDepth 100000
set_option maxHeartbeats 2000000
namespace L2
open PySem PySem.Spec PyProof.Rows
def kLt (a b : List Int) : Bool := pairLt a.length b.length a b
def KeyRow (X : Cx) (q : Addr) : Prop :=
  ∀ (pins : List (Addr × Obj)) (s : Shared) (σ : St) (H : Hp) (r : Addr) (ns : List Int), Inv X pins σ H s → H r = some (.lst (ns.map V.int)) →
    wpAny (model X.prog X.w) X.A.in1 (call (.ref q) [.ref r]) (EP X pins σ fun v H' => ∃ p, v = .ref p ∧ H p = none ∧ H' = upd H p (.tup [.int ns.length, .ref r])) (fun _ _ => False) s
end L2
end
section
set_option Elab.async false
set_option linter.all false
set_option maxRecDepth 100000
set_option maxHeartbeats 2000000
namespace L2
open PySem PySem.Spec PyProof.Rows SeqAt
theorem layAll_ints : ∀ ns : List Int, PyData.canLayAll0 (ns.map PyData.int) = true
  | [] => rfl
  | n :: r => by
    show ((PyData.int n).canLay0 && PyData.canLayAll0 (r.map PyData.int)) = true
    rw [layAll_ints r]; rfl
theorem depthAll_ints : ∀ ns : List Int, PyData.depthAll (ns.map PyData.int) ≤ 1
  | [] => by show 0 ≤ 1; decide
  | n :: r => by
    have h := depthAll_ints r
    show max (PyData.int n).depth (PyData.depthAll (r.map PyData.int)) ≤ 1
    have e : (PyData.int n).depth = 0 := rfl
    omega
theorem depth_ints (ns : List Int) : (PyData.list (ns.map PyData.int)).depth ≤ 2 := by
  have h := depthAll_ints ns
  have e : (PyData.list (ns.map PyData.int)).depth = PyData.depthAll (ns.map PyData.int) + 1 := by simp [PyData.depth]
  omega
section
variable {X : Cx} {pins : List (Addr × Obj)} {σ : St} {H : Hp} {s : Shared}
end
end L2
end
section
set_option Elab.async false
set_option linter.all false
set_option maxRecDepth 100000
set_option maxHeartbeats 2000000
namespace L2
open PySem PySem.Spec PyProof.Rows SeqAt
section
variable {X : Cx} {pins : List (Addr × Obj)} {σ : St}
end
end L2
end
section
set_option Elab.async false
set_option linter.all false
set_option maxRecDepth 100000
set_option maxHeartbeats 2000000
namespace L2
open PySem PySem.Spec PyProof.Rows SeqAt
def rMinRow (q : Addr) : List V → List V → Hp → VK → Prop := fun xs zs H Q => ∃ (l : Addr) (ps : List (Addr × List Int)), xs = [.ref l] ∧ zs = [.ref q, .non] ∧ H l = some (.lst (ps.map fun p => V.ref p.1)) ∧ (∀ p ∈ ps, H p.1 = some (.lst (p.2.map V.int))) ∧
  (ps = [] → Q .non H) ∧ ∀ (p : Addr × List Int) (H' : Hp), p ∈ ps → (∀ p' ∈ ps, kLt p'.2 p.2 = false) → Same H H' → Q (.ref p.1) H'
end L2
end
section
set_option Elab.async false
set_option linter.all false
set_option maxRecDepth 100000
set_option maxHeartbeats 1000000
namespace L2
open PySem PySem.Spec PyProof.Rows
section
variable {X : Cx}
def rMinL (K : PySem.W.Frag) : List V → Hp → VK → Prop := fun xs H Q => ∃ (p : Addr) (ns : List Int), xs = [.ref p] ∧ SqL K H p (ns.map V.int) ∧ ns ≠ [] ∧ ∀ m, m ∈ ns → (∀ n ∈ ns, m ≤ n) → Q (.int m) H
def rSumL (K : PySem.W.Frag) : List V → Hp → VK → Prop := fun xs H Q => ∃ (p : Addr) (ns : List Int), xs = [.ref p] ∧ SqL K H p (ns.map V.int) ∧ Q (.int ns.sum) H
end
end L2
end
section
set_option Elab.async false
set_option linter.all false
set_option maxRecDepth 100000
set_option maxHeartbeats 1000000
namespace L2
open PySem PySem.Spec PyProof.Rows
theorem rev_range (n : Nat) : sliceRange ((n : Int) - 1) (-1) (-1) = (List.range n).map fun k => n - 1 - k := by
  unfold sliceRange
  simp only [show ¬ ((-1 : Int) > 0) by decide, if_false]
  have e : (if (n : Int) - 1 > -1 then ((n : Int) - 1 - -1 - -1 - 1) / (- -1) else 0).toNat = n := by
    split
    · have : ((n : Int) - 1 - -1 - -1 - 1) / (- -1) = n := by
        rw [show (- -1 : Int) = 1 by decide, Int.ediv_one]; omega
      rw [this]; rfl
    · have : n = 0 := by omega
      subst this; rfl
  rw [e]
  apply List.map_congr_left
  intro k hk
  have := List.mem_range.mp hk
  omega
theorem fm_congr {α β : Type} {f g : α → Option β} : ∀ {l : List α}, (∀ x ∈ l, f x = g x) → l.filterMap f = l.filterMap g
  | [], _ => rfl
  | a :: l, h => by rw [List.filterMap_cons, List.filterMap_cons, h a (.head _), fm_congr fun x hx => h x (.tail _ hx)]
theorem rev_pick {α : Type} (xs : List α) : ((List.range xs.length).map fun k => xs.length - 1 - k).filterMap (fun j => xs[j]?) = xs.reverse := by
  have h := pick_list xs.reverse 0 xs.length (by simp)
  rw [List.drop_zero, List.take_of_length_le (by simp)] at h
  rw [← h, List.filterMap_map, List.filterMap_map]
  apply fm_congr
  intro k hk
  have hk' := List.mem_range.mp hk
  show xs[xs.length - 1 - k]? = xs.reverse[0 + k]?
  rw [Nat.zero_add, List.getElem?_reverse hk']
section
variable {X : Cx}
def RvR (X : Cx) (r : V → Hp → VK → Prop) : Prop :=
  ∀ (pins : List (Addr × Obj)) (s : Shared) (σ : St) (H : Hp) (x : V) (v : Value) (t : Tok) (sl : Addr) (Q : VK), Inv X pins σ H s → RelV x v → s.heap.IsSliceOf sl .none .none (.int (-1) t) → r x H Q →
    ∃ T id, typeLookup (.type T) "__getitem__" = pure (some (.builtin id)) ∧ s.TypeIs v T ∧ wpAny (model X.prog X.w) X.A (getItem v (.ref sl)) (EP X pins σ Q) X.xe s
def tRv (r : V → Hp → VK → Prop) (te ts : TE) : TE := fun σ H Q => te σ H fun x H1 => ts σ H1 fun y H2 => y = .int (-1) ∧ r x H2 Q
theorem pe_rev {e st : Expr} {te ts : TE} {pos p2 : Pos} {r : V → Hp → VK → Prop} (hr : RvR X r) (he : PE X e te) (hst : PE X st ts) : PE X (.Subscript e (.Slice none none (some st) p2) pos) (tRv r te ts) := by
  intro pins s σ H Q I h
  refine Subscript_ (thn (he pins s σ H _ I h) fun v s1 ⟨x, H1, I1, r1, q1⟩ => ?_)
  refine wpAny_Slice ?_
  rw [evalPart_none]
  refine wpAny_pure (wpAny_pure ?_)
  rw [evalPart_some]
  refine thn (hst pins s1 σ H1 _ I1 q1) fun vs s3 ⟨y, H3, I3, ry, ey, q3⟩ => ?_
  subst ey
  obtain ⟨t, rfl⟩ := ry
  have I4 : Inv X pins σ H3 { s3 with heap := s3.heap.push { cls := .type "slice", data := .fields #[.none, .none, .int (-1) t] } } := I3.kept (t' := s3.toks) fun b ob q => Heap.get?_push_of_some _ q
  obtain ⟨T, id, hT, ht, hg⟩ := hr pins { s3 with heap := s3.heap.push { cls := .type "slice", data := .fields #[.none, .none, .int (-1) t] } } σ H3 x v t s3.heap.objs.size Q I4 r1 (Heap.IsSliceOf.new ..) q3
  show wpAny (model X.prog X.w) X.A (subscriptTail e (.Slice none none (some st) p2) v (.ref s3.heap.objs.size)) (EP X pins σ Q) X.xe { s3 with heap := s3.heap.push { cls := .type "slice", data := .fields #[.none, .none, .int (-1) t] } }
  exact tail_any (ops := [v, .ref s3.heap.objs.size]) ht hT hg (by with_unfolding_all rfl)
def rRvL (K : PySem.W.Frag) : V → Hp → VK → Prop := fun x H Q => ∃ a xs, x = .ref a ∧ SqL K H a xs ∧ ∀ p, H p = none → Q (.ref p) (upd H p (.lst xs.reverse))
theorem rv_list : RvR X (rRvL X.K) := by
  intro pins s σ H x v t sl Q I rx hs h
  obtain ⟨a, xs, rfl, hx, q⟩ := h
  cases rx
  obtain ⟨its, r, ht, hz⟩ := I.list hx
  have hlen := r.length
  refine ⟨"list", _, slot_list_getitem.lookup, ht.isList.typeIs, ?_⟩
  refine wpAny_getItem_list_slice ht.isList hs .none .none (.int (-1) t) (by decide) ?_ (by rw [List.size_toArray] <;> omega)
  have e : slicePick its.toArray none none (some (-1)) = its.reverse.toArray := by
    unfold slicePick
    show ((sliceRange ((its.toArray.size : Int) - 1) (-1) (-1)).filterMap (its.toArray[·]?)).toArray = _
    rw [rev_range, List.size_toArray, ← rev_pick its]
    congr 1
    apply fm_congr
    intro k _
    exact List.getElem?_toArray ..
  rw [e]
  refine ⟨.ref s.heap.objs.size, _, I.laid (t' := s.toks) (o := .lst xs.reverse) (fun b ob q => Heap.get?_push_of_some _ q) (Nat.le_refl _) ?_, rfl, q _ (I.hok.fresh (Nat.le_refl _))⟩
  exact ⟨by rw [List.length_reverse]; exact hz, its.reverse, 0, r.reverse, Heap.get?_push_size _ rfl⟩
def Txt.rev (z : Str) : Str := ⟨z.cps.toList.reverse.toArray⟩
def rRvS : V → Hp → VK → Prop := fun x H Q => ∃ z, x = .str z ∧ z.length ≤ sizeLine ∧ Q (.str (Txt.rev z)) H
end
end L2
end
section
set_option Elab.async false
set_option linter.all false
set_option maxRecDepth 100000
set_option maxHeartbeats 1000000
namespace L2
open PySem PySem.Spec PyProof.Rows
def Itd (lo : Int) (n : Nat) : It := ⟨fun i _ => i < n, fun i H x H' => H' = H ∧ x = .int (lo - i), fun i _ => n ≤ i⟩
section
variable {X : Cx} {tg : Expr}
def iRngD (ta : TA) : TI := fun σ H R => ta σ H fun vs H1 => ∃ i j : Int, vs = [.int i, .int j, .int (-1)] ∧ (-(2 ^ 62) ≤ i ∧ i < 2 ^ 62 ∧ -(2 ^ 62) ≤ j ∧ j < 2 ^ 62) ∧ R (Itd i (i - j).toNat) H1
end
end L2
end
section
set_option Elab.async false
set_option linter.all false
set_option maxRecDepth 100000
set_option maxHeartbeats 1000000
namespace L2
open PySem PySem.Spec PyProof.Rows
end L2
end
section
set_option Elab.async false
set_option linter.all false
set_option maxRecDepth 100000
set_option maxHeartbeats 1000000
namespace L2
open PySem PySem.Spec PyProof.Rows
section
variable {X : Cx}
def rIsB (n : Bool) : R2 := fun x y H Q => ∃ c d, x = .bl c ∧ y = .bl d ∧ Q (.bl (if n then c != d else c == d)) H
def rInsert : V → List V → Hp → VK → Prop := fun x vs H Q => ∃ l xs y, ∃ k : Nat, x = .ref l ∧ vs = [.int (k : Int), y] ∧ H l = some (.lst xs) ∧ xs.length < sizeLine ∧ k ≤ xs.length ∧ Q .non (upd H l (.lst (xs.take k ++ y :: xs.drop k)))
def rSortS (K : PySem.W.Frag) : List V → Hp → VK → Prop := fun xs H Q => ∃ p zs, xs = [.ref p] ∧ SqL K H p (zs.map V.str) ∧ zs.length < 64 ∧ ∀ l zs', zs'.Perm zs → sortedS zs' = true → H l = none → Q (.ref l) (upd H l (.lst (zs'.map V.str)))
end
end L2
end
section
set_option Elab.async false
set_option linter.all false
set_option maxRecDepth 100000
set_option maxHeartbeats 1000000
namespace L2
open PySem PySem.Spec PyProof.Rows
section
variable {prog : Program} {w : World} {A : Around} {E : Value → Shared → Prop} {s : Shared}
end
section
variable {X : Cx} {pins : List (Addr × Obj)} {σ : St} {H : Hp} {s : Shared}
end
def ItT (a : Addr) (o : Obj) (kvs : List (List Key × V)) : It :=
  ⟨fun i H => H a = some (.frz o (.dT kvs)) ∧ i < kvs.length, fun i H x H' => H' = H ∧ ∃ b p, kvs[i]? = some p ∧ x = .ref b ∧ H b = some (.tup (p.1.map kV)), fun i H => H a = some (.frz o (.dT kvs)) ∧ kvs.length ≤ i⟩
section
variable {X : Cx} {tg : Expr}
def iKeysT (tl : TE) : TI := fun σ H R => tl σ H fun x H1 => ∃ a kvs, x = .ref a ∧ H1 a = some (.dT kvs) ∧ ∀ o, R (ItT a o kvs) (upd H1 a (.frz o (.dT kvs)))
end
end L2
end
section
set_option Elab.async false
set_option linter.all false
set_option maxRecDepth 100000
set_option maxHeartbeats 1000000
namespace L2
open PySem PySem.Spec PyProof.Rows
def CDivW (_ j : Int) : Prop := j ≠ 0 ∧ j.natAbs < 2 ^ 8999
structure Ent where
  k : Str
  t : Tok
  v : Value
  x : V
def Ent.kv (e : Ent) : Key × V := (.inr e.k, e.x)
def Ent.en (w : World) (e : Ent) : DictEntry := ⟨PyData.keyHash w.params e.k, .str e.k e.t, e.v⟩
def rLstOf (K : PySem.W.Frag) : List V → Hp → VK → Prop := fun xs H Q => ∃ p ys, xs = [.ref p] ∧ (SqL K H p ys ∨ SqT K H p ys) ∧ ∀ l, H l = none → Q (.ref l) (upd H l (.lst ys))
def rLenQ (K : PySem.W.Frag) : List V → Hp → VK → Prop := fun xs H Q => ∃ p ys, xs = [.ref p] ∧ (SqL K H p ys ∨ SqT K H p ys) ∧ Q (.int (ys.length : Nat)) H
end L2
end
section
set_option Elab.async false
set_option linter.all false
set_option maxRecDepth 100000
set_option maxHeartbeats 1000000
namespace L2
open PySem PySem.Spec PyProof.Rows
section
variable {X : Cx} {a b : Expr} {rest : List Expr} {pos : Pos} {ta tb : TE}
def tOrS (ta tb : TE) : TE := fun σ H Q => ta σ H fun x H1 => ∃ z : Str, x = .str z ∧ z.length ≤ sizeLine ∧ if z.length = 0 then tb σ H1 Q else Q (.str z) H1
def rMaxL (K : PySem.W.Frag) : List V → Hp → VK → Prop := fun xs H Q => ∃ (p : Addr) (ns : List Int), xs = [.ref p] ∧ SqL K H p (ns.map V.int) ∧ ns ≠ [] ∧ ∀ m, m ∈ ns → (∀ n ∈ ns, n ≤ m) → Q (.int m) H
def rCatE (K : PySem.W.Frag) : R2 := fun x y H Q => ∃ a b xs ys, x = .ref a ∧ y = .ref b ∧ SqT K H a xs ∧ SqT K H b ys ∧ xs.length + ys.length ≤ sizeLine ∧
  (xs = [] → Q (.ref b) H) ∧ (xs ≠ [] → ys = [] → Q (.ref a) H) ∧ (xs ≠ [] → ys ≠ [] → ∀ p, H p = none → Q (.ref p) (upd H p (.tup (xs ++ ys))))
def rAllB (K : PySem.W.Frag) : List V → Hp → VK → Prop := fun xs H Q => ∃ (p : Addr) (bs : List Bool), xs = [.ref p] ∧ SqL K H p (bs.map V.bl) ∧ Q (.bl (bs.all id)) H
end
end L2
end
section
set_option Elab.async false
set_option linter.all false
set_option maxHeartbeats 4000000
namespace L2
open PySem PySem.Spec PyProof.Rows
theorem occ_full (s sub : Str) (hi : Nat) : ∀ (l : List Nat) (st : Array Nat × Nat), 1 ≤ st.fst.size → (forIn (m := Id) l st (StrLaws.occBody s sub hi 1)).run.fst = st.fst
  | [], _, _ => rfl
  | a :: l, st, h => by
    have c : ¬ (((st.fst.size < 1 ∧ st.snd ≤ a) ∧ a + sub.length ≤ hi) ∧ Builtin.Str.subAt s sub a = true) := fun z => by have := z.1.1.1; omega
    rw [List.forIn_cons]
    unfold StrLaws.occBody
    rw [if_neg c]
    exact occ_full s sub hi l _ h
theorem occ_go (s sub : Str) (hi : Nat) : ∀ (l : List Nat) (free : Nat), (∀ i ∈ l, free ≤ i) →
    (forIn (m := Id) l ((#[] : Array Nat), free) (StrLaws.occBody s sub hi 1)).run.fst.toList = (l.find? fun i => decide (i + sub.length ≤ hi) && Builtin.Str.subAt s sub i).toList
  | [], _, _ => rfl
  | a :: l, free, h => by
    have ha := h a List.mem_cons_self
    rw [List.forIn_cons, List.find?_cons]
    by_cases c : a + sub.length ≤ hi ∧ Builtin.Str.subAt s sub a = true
    · have e : StrLaws.occBody s sub hi 1 a ((#[] : Array Nat), free) = pure (ForInStep.yield (#[a], a + sub.length)) := by
        unfold StrLaws.occBody
        rw [if_pos ⟨⟨⟨Nat.zero_lt_one, ha⟩, c.1⟩, c.2⟩]; rfl
      rw [e, decide_eq_true c.1, c.2]
      show (forIn (m := Id) l _ (StrLaws.occBody s sub hi 1)).run.fst.toList = _
      rw [occ_full _ _ _ _ (#[a], a + sub.length) (Nat.le_refl 1)]
      rfl
    · have e : StrLaws.occBody s sub hi 1 a ((#[] : Array Nat), free) = pure (ForInStep.yield (#[], free)) := by
        unfold StrLaws.occBody
        rw [if_neg fun z => c ⟨z.1.2, z.2⟩]
      have c' : (decide (a + sub.length ≤ hi) && Builtin.Str.subAt s sub a) = false := by
        cases h1 : Builtin.Str.subAt s sub a with
        | false => rw [Bool.and_false]
        | true => rw [decide_eq_false fun z => c ⟨z, h1⟩]; rfl
      rw [e, c']
      show (forIn (m := Id) l _ (StrLaws.occBody s sub hi 1)).run.fst.toList = _
      exact occ_go s sub hi l free fun i hi' => h i (List.mem_cons_of_mem _ hi')
def firstAt (a b : List Nat) : Option Nat := (List.range (a.length + 1)).find? fun i => decide (i + b.length ≤ a.length) && ((a.drop i).take b.length == b)
theorem occ_first (x y : Str) : Builtin.Str.occurrences x y 0 x.length 1 = (firstAt x.cps.toList y.cps.toList).toList := by
  rw [StrLaws.occ_eq, occ_go x y x.length _ 0 fun _ _ => Nat.zero_le _]
  unfold firstAt
  have hx : x.cps.toList.length = x.length := rfl
  have hy : y.cps.toList.length = y.length := rfl
  rw [hx, hy, Nat.sub_zero, List.range_eq_range']
  congr 2
  funext i
  rw [StrLaws.subAt_eq]
theorem firstAt_some {a b : List Nat} {i : Nat} (h : firstAt a b = some i) : i + b.length ≤ a.length ∧ (a.drop i).take b.length = b ∧ ∀ j, j < i → ¬ (j + b.length ≤ a.length ∧ (a.drop j).take b.length = b) := by
  unfold firstAt at h
  have h1 := List.find?_some h
  rw [Bool.and_eq_true, decide_eq_true_eq, beq_iff_eq] at h1
  refine ⟨h1.1, h1.2, fun j hj z => ?_⟩
  obtain ⟨_, as, bs, e, n⟩ := List.find?_eq_some_iff_append.mp h
  have il : i < a.length + 1 := by have := List.mem_of_find?_eq_some h; rw [List.mem_range] at this; exact this
  have jm : j ∈ as := by
    have li : as.length = i := by
      have g := congrArg (fun l => l[as.length]?) e
      simp only [List.getElem?_append_right (Nat.le_refl _), Nat.sub_self, List.getElem?_cons_zero] at g
      obtain ⟨g1, g2⟩ := List.getElem?_eq_some_iff.mp g
      rw [List.getElem_range] at g2; exact g2
    have g := congrArg (fun l => l[j]?) e
    simp only [List.getElem?_append_left (show j < as.length by omega)] at g
    rw [List.getElem?_range (by omega)] at g
    exact List.mem_of_getElem? g.symm
  have := n j jm
  rw [Bool.not_eq_true', Bool.and_eq_false_iff, decide_eq_false_iff_not] at this
  rcases this with q | q
  · exact q z.1
  · rw [z.2, beq_self_eq_true] at q; cases q
theorem in_first (x y : Str) : (!(Builtin.Str.occurrences x y 0 x.length 1).isEmpty) = (firstAt x.cps.toList y.cps.toList).isSome := by
  rw [occ_first]
  cases firstAt x.cps.toList y.cps.toList <;> rfl
section
variable {X : Cx}
def rFind : V → List V → Hp → VK → Prop := fun x vs H Q => ∃ z y, x = .str z ∧ vs = [.str y] ∧ Q (.int (Txt.find z y)) H
def rIsTup (K : PySem.W.Frag) : List V → Hp → VK → Prop := fun xs H Q => ∃ a vs, xs = [.ref a, .ty "tuple"] ∧ SqT K H a vs ∧ Q (.bl true) H
theorem call_isTup : CallR X (.builtin "isinstance") (rIsTup X.K) := by
  intro pins s σ H xs us Q I r h
  obtain ⟨a, vs, rfl, hq, q⟩ := h
  obtain ⟨u, u', rfl, rx, ry⟩ := vals2 r
  cases rx
  cases ry
  obtain ⟨its, rv, pl, hz⟩ := I.tuple hq
  obtain ⟨o, h1, h2, _⟩ := pl
  exact PySem.W.kia_one (b := true) PySem.W.kitx_tuple I.kIn ⟨o, h1, h2⟩ rfl (fun z => nomatch z) fun tk => ⟨.bl true, H, I.tok _, rfl, q⟩
end
end L2
end
section
set_option Elab.async false
set_option linter.all false
set_option maxHeartbeats 4000000
namespace L2
open PySem PySem.Spec PyProof.Rows
theorem occ_size (s sub : Str) (hi k : Nat) : ∀ (l : List Nat) (st : Array Nat × Nat), st.fst.size ≤ k → (forIn (m := Id) l st (StrLaws.occBody s sub hi k)).run.fst.size ≤ k
  | [], _, h => h
  | a :: l, st, h => by
    rw [List.forIn_cons]
    by_cases c : ((st.fst.size < k ∧ st.snd ≤ a) ∧ a + sub.length ≤ hi) ∧ Builtin.Str.subAt s sub a = true
    · unfold StrLaws.occBody
      rw [if_pos c]
      exact occ_size s sub hi k l (st.fst.push a, a + sub.length) (by show (st.fst.push a).size ≤ k; rw [Array.size_push]; exact c.1.1.1)
    · unfold StrLaws.occBody
      rw [if_neg c]
      exact occ_size s sub hi k l st h
theorem occ_most (x y : Str) (k : Nat) : (Builtin.Str.occurrences x y 0 x.length k).length ≤ k := by
  rw [StrLaws.occ_eq]
  exact occ_size x y x.length k _ _ (Nat.zero_le _)
section
variable {X : Cx}
def rZfill : V → List V → Hp → VK → Prop := fun x vs H Q => ∃ z i, x = .str z ∧ vs = [.int i] ∧ PadOk i = true ∧ Q (.str (Txt.zfill z i)) H
theorem mt_zfill : MtR X "str.zfill" rZfill := by
  intro pins s σ H x vs v us Q I rx rv h
  obtain ⟨z, i, rfl, rfl, hp, q⟩ := h
  obtain ⟨t, rfl⟩ := rx
  obtain ⟨u, rfl, t', rfl⟩ := rv.one
  exact SC.zfill hp fun _ _ => ⟨.str _, H, I.tok _, ⟨_, rfl⟩, q⟩
def rStrip : V → List V → Hp → VK → Prop := fun x vs H Q => ∃ z y, x = .str z ∧ vs = [.str y] ∧ z.length ≤ sizeLine ∧ Q (.str (Txt.stripChars z y)) H
theorem mt_strip : MtR X "str.strip" rStrip := by
  intro pins s σ H x vs v us Q I rx rv h
  obtain ⟨z, i, rfl, rfl, hp, q⟩ := h
  obtain ⟨t, rfl⟩ := rx
  obtain ⟨u, rfl, t', rfl⟩ := rv.one
  exact SC.stripChars (fun _ _ => ⟨.str _, H, I.tok _, ⟨_, rfl⟩, q⟩) hp
theorem vals_strs : ∀ (l : List (Str × Tok)), Vals (l.map fun p => V.str p.1) (strValues l)
  | [] => .nil
  | p :: l => .cons ⟨_, rfl⟩ (vals_strs l)
def rSplit : V → List V → Hp → VK → Prop := fun x vs H Q => ∃ z y, x = .str z ∧ vs = [.str y] ∧ (y.length == 0) = false ∧ z.length + 2 ≤ sizeLine ∧ ∀ l, H l = none → Q (.ref l) (upd H l (.lst ((Txt.split z y).map V.str)))
theorem mt_split : MtR X "str.split" rSplit := by
  intro pins s σ H x vs v us Q I rx rv h
  obtain ⟨x, y, rfl, rfl, hy, hz, q⟩ := h
  obtain ⟨t, rfl⟩ := rx
  obtain ⟨u, rfl, t', rfl⟩ := rv.one
  have hsz : x.length ≤ sizeLine := by omega
  have hsz2 : (Builtin.Str.partsBetween x (Builtin.Str.occurrences x y 0 x.length (x.length + 1)) y.length).length ≤ sizeLine := by
    have := PySem.length_partsBetween x (Builtin.Str.occurrences x y 0 x.length (x.length + 1)) y.length
    have h2 : (Builtin.Str.occurrences x y 0 x.length (x.length + 1)).length ≤ x.length + 1 := occ_most x y _
    omega
  have fin : ∀ (l : List (Str × Tok)) (k : Nat), l.map (·.1) = Txt.split x y → l.length ≤ sizeLine →
      EP X pins σ Q (.ref s.heap.objs.size) { s with toks := k, heap := s.heap.push { cls := .type "list", data := .seq (strValues l).toArray } } := fun l k e hl => by
    have e2 : (Txt.split x y).map V.str = l.map fun p => V.str p.1 := by rw [← e, List.map_map]; rfl
    have q2 := q s.heap.objs.size (I.hok.fresh (Nat.le_refl _))
    rw [e2] at q2
    exact ⟨.ref s.heap.objs.size, _, I.laid (t' := k) (fun b o e => Heap.get?_push_of_some _ e) (Nat.le_refl _)
      (show ObjOk X.prog X.w _ _ _ (.lst (l.map fun p => V.str p.1)) from ⟨by rw [List.length_map]; exact hl, strValues l, _, vals_strs l, Heap.get?_push_size _ rfl⟩), rfl, q2⟩
  cases h1 : (decide (x.length < y.length) || decide (Builtin.Str.strKind x < Builtin.Str.strKind y))
  · cases hf : (Builtin.Str.occurrences x y 0 x.length (x.length + 1)).isEmpty
    · refine call_meets F.slot_str_split (typeIs_str _ _ _) F.entry_str_split (F.args_str_split_2 _ _) (meets_str_split_sep x y t t' h1 hy hf hsz hsz2) ?_
      show EP X pins σ Q _ { s with toks := _, heap := s.heap.push { cls := .type "list", data := .seq (strsFrom s.toks (Builtin.Str.partsBetween x (Builtin.Str.occurrences x y 0 x.length (x.length + 1)) y.length)).toArray } }
      rw [strsFrom_eq]
      have en := numbered_texts s.toks (Builtin.Str.partsBetween x (Builtin.Str.occurrences x y 0 x.length (x.length + 1)) y.length)
      exact fin (numbered s.toks _) _ (en.trans ((if_neg (ne_true_of_eq_false h1)).trans (if_neg (ne_true_of_eq_false hf))).symm) (by rw [← List.length_map (f := (·.1)), en]; exact hsz2)
    · exact call_meets F.slot_str_split (typeIs_str _ _ _) F.entry_str_split (F.args_str_split_2 _ _) (meets_str_split_not_found x y t t' h1 hy hf)
        (fin [(x, t)] s.toks ((if_neg (ne_true_of_eq_false h1)).trans (if_pos hf)).symm (by rw [sizeLine_eq]; show 1 ≤ _; decide))
  · exact call_meets F.slot_str_split (typeIs_str _ _ _) F.entry_str_split (F.args_str_split_2 _ _) (meets_str_split_cannot_occur x y t t' h1)
      (fin [(x, t)] s.toks (if_pos h1).symm (by rw [sizeLine_eq]; show 1 ≤ _; decide))
def rIntS : List V → Hp → VK → Prop := fun xs H Q => ∃ x n, xs = [.str x] ∧ PySem.intText? x = some n ∧ x.length ≤ 640 ∧ Q (.int n) H
theorem call_intS : CallR X (.type "int") rIntS := by
  intro pins s σ H xs us Q I r h
  obtain ⟨x, n, rfl, hn, hl, q⟩ := h
  obtain ⟨u, rfl, t, rfl⟩ := vals1 r
  exact PySem.W.KIN.call_text hn hl ⟨.int n, H, I.tok _, ⟨_, rfl⟩, q⟩
def rDivmodW : List V → Hp → VK → Prop := fun xs H Q => ∃ i j, xs = [.int i, .int j] ∧ 0 < j ∧ j.natAbs.log2 < 9000 ∧ ∀ p, H p = none → Q (.ref p) (upd H p (.tup [.int (i / j), .int (i % j)]))
theorem call_divmodW : CallR X (.builtin "divmod") rDivmodW := by
  intro pins s σ H xs us Q I r h
  obtain ⟨i, j, rfl, h1, h2, q⟩ := h
  obtain ⟨u, w', rfl, ⟨t, rfl⟩, ⟨t', rfl⟩⟩ := vals2 r
  refine divmod_int (by omega) ?_ (.inl (PyProof.noPylong_of_log2 h2))
  rw [Int.fdiv_eq_ediv_of_nonneg i (by omega), Int.fmod_eq_emod_of_nonneg i (by omega)]
  have hn : H s.heap.objs.size = none := I.hok.fresh (Nat.le_refl _)
  refine ⟨.ref s.heap.objs.size, _, ?_, rfl, q _ hn⟩
  refine I.laid (fun b o e => Heap.get?_push_of_some _ e) (Nat.le_refl _) ⟨by simp only [List.length_cons, List.length_nil]; rw [sizeLine_eq]; decide, [.int (i / j) s.toks, .int (i % j) (s.toks + 1)], .cons ⟨_, rfl⟩ (.cons ⟨_, rfl⟩ .nil), ?_⟩
  exact ⟨_, Heap.get?_push_size s.heap rfl, rfl, 0, rfl⟩
end
end L2
end
section
set_option Elab.async false
set_option linter.all false
set_option maxRecDepth 100000
set_option maxHeartbeats 1000000
namespace L2
open PySem PySem.Spec PyProof.Rows
theorem bt_int : bootBuiltins "int" = some (.type "int") := by decide +kernel
theorem bt_bool : bootBuiltins "bool" = some (.type "bool") := by decide +kernel
theorem bt_tuple : bootBuiltins "tuple" = some (.type "tuple") := by decide +kernel
theorem bt_str : bootBuiltins "str" = some (.type "str") := by decide +kernel
theorem bt_len : bootBuiltins "len" = some (.builtin "len") := by decide +kernel
theorem bt_isinstance : bootBuiltins "isinstance" = some (.builtin "isinstance") := by decide +kernel
theorem bt_all : bootBuiltins "all" = some (.builtin "all") := by decide +kernel
theorem bt_max : bootBuiltins "max" = some (.builtin "max") := by decide +kernel
theorem bt_min : bootBuiltins "min" = some (.builtin "min") := by decide +kernel
theorem bt_ValueError : bootBuiltins "ValueError" = some (.type "ValueError") := by decide +kernel
theorem compScope_of {X : Cx} {scope : Scope} {ts cap : List Str} {js : List Nat} (h1 : scope.kind = .function) (h2 : (scope.names.all fun y => y.2 != .cell) = true) (h3 : (scope.names.all fun y => y.2 != .local || scope.names.lookup y.1 == some .local) = true)
    (h4 : (scope.names.all fun y => y.2 != .free || X.env.kindOf y.1 == some .cell || X.env.kindOf y.1 == some .free) = true) (h5 : cap.map some = js.map fun j => X.N[j]?) (h6 : (cap.all fun y => scope.names.lookup y == some .free) = true) (h7 : (ts ++ cap).Nodup) : CompScope X scope ts cap js where
  kind := h1
  nocell := fun y hy e => by have := List.all_eq_true.mp h2 y hy; rw [e] at this; cases this
  names := fun y hy e => by
    have := List.all_eq_true.mp h3 y hy
    rw [e] at this
    simpa using this
  free := fun y hy e => by
    have := List.all_eq_true.mp h4 y hy
    rw [e] at this
    simpa using this
  caps := h5
  capf := fun y hy => by
    have := List.all_eq_true.mp h6 y hy
    simpa using this
  nd := h7
theorem st_c {env : Env} {c j pos} {es : List Expr} : starEach (.Constant c j pos :: es) env = (false, eval (.Constant c j pos) env) :: starEach es env := rfl
theorem st_n {env : Env} {x pos} {es : List Expr} : starEach (.Name x pos :: es) env = (false, eval (.Name x pos) env) :: starEach es env := rfl
theorem st_f {env : Env} {a b c pos} {es : List Expr} : starEach (.Call a b c pos :: es) env = (false, eval (.Call a b c pos) env) :: starEach es env := rfl
def strOf : Expr → Option Str
  | .Constant (.str x) _ _ => some x
  | _ => none
theorem pa_strs {X : Cx} : ∀ {es : List Expr} {xs : List Str}, es.map strOf = xs.map some → PA X es (fun _ H Q => Q (xs.map V.str) H)
  | [], [], _ => pa_nil
  | [], _ :: _, h => by cases h
  | _ :: _, [], h => by cases h
  | e :: es, x :: xs, h => by
    rw [List.map_cons, List.map_cons] at h
    injection h with h1 h2
    have ih := pa_strs (X := X) (es := es) (xs := xs) h2
    unfold strOf at h1
    split at h1
    · cases h1
      exact pa_cons pe_str ih st_c
    · cases h1
structure DD where
  f : Addr
  fd : FuncData
structure Def (K : PySem.W.Frag) (mg : Str → Option Value) (x : Str) (st : Stmt) (ps : List Str) (d : DD) : Prop where
  fn : Fun K x x st d.f d.fd
  m : mg x = some (.ref d.f)
  b : Binds K d.fd ps []
def hid (p : Addr) (H : Hp) : Hp := fun b => if b = p then none else H b
theorem hid_ne {p b : Addr} {H : Hp} (h : b ≠ p) : hid p H b = H b := if_neg h
theorem hid_le (p : Addr) (H : Hp) : Same (hid p H) H := fun b o e => by
  unfold hid at e
  split at e
  · cases e
  · exact e
theorem Same.hid {p : Addr} {H H' : Hp} (e : Same H H') : Same (hid p H) (L2.hid p H') := fun b o q => by
  unfold L2.hid at q ⊢
  split at q
  · cases q
  · rename_i h; rw [if_neg h]; exact e b o q
def DOk (a b c : Int) : Prop := 1 ≤ b ∧ b ≤ 2147483648 ∧ 1000000000 ≤ c ∧ c ≤ 2147483647
def Ds (H : Hp) (p : Addr) : Prop := ∃ a b c, H p = some (.lst [.int a, .int b, .int c]) ∧ DOk a b c
structure Dr (p : Addr) (H H' : Hp) : Prop where
  same : Same (hid p H) (hid p H')
  ds : Ds H' p
theorem Dr.refl {p : Addr} {H : Hp} (h : Ds H p) : Dr p H H := ⟨Same.refl _, h⟩
theorem Dr.trans {p : Addr} {H H1 H2 : Hp} (a : Dr p H H1) (b : Dr p H1 H2) : Dr p H H2 := ⟨a.same.trans b.same, b.ds⟩
theorem Ds.same {p : Addr} {H H' : Hp} (h : Ds H p) (e : Same H H') : Ds H' p := by
  obtain ⟨a, b, c, q, r⟩ := h
  exact ⟨a, b, c, e _ _ q, r⟩
theorem Dr.of_same {p : Addr} {H H' : Hp} (h : Ds H p) (e : Same H H') : Dr p H H' := ⟨e.hid, h.same e⟩
theorem Dr.of_upd {p : Addr} {H : Hp} {a b c : Int} (h : DOk a b c) : Dr p H (upd H p (.lst [.int a, .int b, .int c])) :=
  ⟨fun q o e => by
    unfold hid at e ⊢
    split at e
    · cases e
    · rename_i n; rw [if_neg n, upd_ne n]; exact e, a, b, c, upd_same, h⟩
theorem Ds.ne {p q : Addr} {H : Hp} (h : Ds H p) (n : H q = none) : p ≠ q := by
  obtain ⟨a, b, c, e, _⟩ := h
  exact ne_of_none e n
theorem Dr.new {p q : Addr} {H : Hp} (h : Ds H p) (n : H q = none) (o : HO) : Dr p H (upd H q o) := Dr.of_same h (same_new n o)
theorem hid_new {p q : Addr} {H : Hp} (h : Ds H p) (n : H q = none) (o : HO) : hid p (upd H q o) q = some o := by
  rw [hid_ne (Ne.symm (h.ne n)), upd_same]
end L2
end
section
set_option Elab.async false
set_option linter.all false
set_option maxRecDepth 100000
set_option maxHeartbeats 1000000
namespace L2
open PySem PySem.Spec PyProof.Rows
structure Tb where
  a : Int
  b : Int
  c : Int
  d : Int
def Tb.vs (t : Tb) : List V := [.int t.a, .int t.b, .int t.c, .int t.d]
def Tb.mul (s t : Tb) : Tb := ⟨s.a * t.a + s.b * t.c, s.a * t.b + s.b * t.d, s.c * t.a + s.d * t.c, s.c * t.b + s.d * t.d⟩
def Tb.one : Tb := ⟨1, 0, 0, 1⟩
def Tb.worth (t : Tb) : Int := t.a * t.d - t.b * t.c
def Tb.dat (t : Tb) : PyData := .tuple [.int t.a, .int t.b, .int t.c, .int t.d]
def T4 (K : PySem.W.Frag) (H : Hp) (v : V) (t : Tb) : Prop := ∃ a, v = .ref a ∧ SqT K H a t.vs
def T4o (H : Hp) (v : V) (t : Tb) : Prop := ∃ a, v = .ref a ∧ H a = some (.tup t.vs)
def Lt2 (n : Nat) (x : Int) : Prop := x.natAbs < 2 ^ n
structure Bd (n : Nat) (t : Tb) : Prop where
  a : Lt2 n t.a
  b : Lt2 n t.b
  c : Lt2 n t.c
  d : Lt2 n t.d
theorem Lt2.mono {n m : Nat} {x : Int} (h : Lt2 n x) (l : n ≤ m) : Lt2 m x := Nat.lt_of_lt_of_le h (Nat.pow_le_pow_right (by decide) l)
theorem Lt2.bits {n : Nat} {x : Int} (h : Lt2 n x) : Builtin.Int.intBits x ≤ n := by
  unfold Builtin.Int.intBits
  unfold Lt2 at h
  split
  · exact Nat.zero_le _
  · rename_i z
    have nz : x.natAbs ≠ 0 := fun q => z (by rw [Int.natAbs_eq_zero.mp q]; rfl)
    exact (Nat.log2_lt nz).mpr h
theorem Lt2.big {n m : Nat} {x y : Int} (hx : Lt2 n x) (hy : Lt2 m y) (hn : n ≤ 1048576) (hm : m ≤ 1048576) : CBig x y := ⟨Nat.le_trans hx.bits hn, Nat.le_trans hy.bits hm⟩
def thInt : V → Bool
  | .int _ => true
  | _ => false
inductive Kn (H : Hp) : V → Prop where
  | non : Kn H .non
  | bl (b : Bool) : Kn H (.bl b)
  | int (i : Int) : Kn H (.int i)
  | str (x : Str) : Kn H (.str x)
  | lst {a : Addr} {xs : List V} (e : H a = some (.lst xs)) : Kn H (.ref a)
  | tup {a : Addr} {xs : List V} (e : H a = some (.tup xs)) : Kn H (.ref a)
inductive Th (H : Hp) : V → Bool → Prop where
  | non : Th H .non false
  | bl (b : Bool) : Th H (.bl b) false
  | int (i : Int) : Th H (.int i) false
  | str (x : Str) : Th H (.str x) false
  | lst {a : Addr} {xs : List V} (e : H a = some (.lst xs)) : Th H (.ref a) false
  | tup {a : Addr} {xs : List V} (e : H a = some (.tup xs)) (k : ∀ x ∈ xs, Kn H x) : Th H (.ref a) (xs.length == 4 && xs.all thInt)
theorem Th.kn {H : Hp} {v : V} {b : Bool} (h : Th H v b) : Kn H v := by
  cases h with
  | non => exact .non
  | bl b => exact .bl b
  | int i => exact .int i
  | str x => exact .str x
  | lst e => exact .lst e
  | tup e k => exact .tup e
theorem Kn.mono {H H' : Hp} {v : V} (h : Kn H v) (e : Same H H') : Kn H' v := by
  cases h with
  | non => exact .non
  | bl b => exact .bl b
  | int i => exact .int i
  | str x => exact .str x
  | lst q => exact .lst (e _ _ q)
  | tup q => exact .tup (e _ _ q)
section
variable {K : PySem.W.Frag} {H : Hp} {v : V}
def isIB : V → Bool
  | .int _ => true
  | .bl _ => true
  | _ => false
def isB : V → Bool
  | .bl _ => true
  | _ => false
theorem Kn.as_int (h : Kn H v) : ∃ t, TyOf K H v t ∧ PySem.W.kitOne K t (.type "int") = some (isIB v) := by
  cases h with
  | non => exact ⟨_, .non, rfl⟩
  | bl b => exact ⟨_, .bl b, rfl⟩
  | int i => exact ⟨_, .int i, rfl⟩
  | str x => exact ⟨_, .str x, rfl⟩
  | lst e => exact ⟨_, .lst e, rfl⟩
  | tup e => exact ⟨_, .tup e, rfl⟩
theorem Kn.as_bool (h : Kn H v) : ∃ t, TyOf K H v t ∧ PySem.W.kitOne K t (.type "bool") = some (isB v) := by
  cases h with
  | non => exact ⟨_, .non, rfl⟩
  | bl b => exact ⟨_, .bl b, rfl⟩
  | int i => exact ⟨_, .int i, rfl⟩
  | str x => exact ⟨_, .str x, rfl⟩
  | lst e => exact ⟨_, .lst e, rfl⟩
  | tup e => exact ⟨_, .tup e, rfl⟩
end
def spWhole : Sp := fun vs H Q _ => ∃ v, vs = [v] ∧ Kn H v ∧ Q (.bl (thInt v)) H
def spIsTable : Sp := fun vs H Q _ => ∃ v b, vs = [v] ∧ Th H v b ∧ ∀ H', Same H H' → Q (.bl b) H'
end L2
end
section
set_option Elab.async false
set_option linter.all false
set_option maxRecDepth 100000
set_option maxHeartbeats 1000000
namespace L2
open PySem PySem.Spec PyProof.Rows
structure Hs (H : Hp) (L : List (Addr × HO)) (H' : Hp) : Prop where
  all : Same H H'
  at' : ∀ a o, (a, o) ∈ L → H' a = some o
  nd : (L.map (·.1)).Nodup
  fr : ∀ a o, (a, o) ∈ L → H a = none
theorem Hs.start (H : Hp) : Hs H [] H := ⟨Same.refl H, fun _ _ h => absurd h (by simp), by simp, fun _ _ h => absurd h (by simp)⟩
theorem Hs.new {H H' : Hp} {L : List (Addr × HO)} {a : Addr} (h : Hs H L H') (n : H' a = none) (o : HO) : Hs H (L ++ [(a, o)]) (upd H' a o) where
  all := h.all.trans (same_new n o)
  at' := fun b u hm => by
    rcases List.mem_append.mp hm with z | z
    · exact same_new n o _ _ (h.at' b u z)
    · have e : (b, u) = (a, o) := by simpa using z
      cases e
      exact upd_same
  nd := by
    rw [List.map_append, List.nodup_append]
    refine ⟨h.nd, by simp, fun x hx y hy => ?_⟩
    have ey : y = a := by simpa using hy
    subst ey
    obtain ⟨⟨b, u⟩, hb, e⟩ := List.mem_map.mp hx
    cases e
    exact ne_of_none (h.at' b u hb) n
  fr := fun b u hm => by
    rcases List.mem_append.mp hm with z | z
    · exact h.fr b u z
    · have e : (b, u) = (a, o) := by simpa using z
      cases e
      exact h.all.free n
theorem Hs.get {H H' : Hp} {L : List (Addr × HO)} {a : Addr} {o : HO} (h : Hs H L H') (i : Nat) (e : L[i]? = some (a, o) := by rfl) : H' a = some o := h.at' a o (List.mem_of_getElem? e)
theorem Hs.ne {H H' : Hp} {L : List (Addr × HO)} {a b : Addr} {o u : HO} (h : Hs H L H') (i j : Nat) (ij : i ≠ j) (e : L[i]? = some (a, o) := by rfl) (f : L[j]? = some (b, u) := by rfl) : a ≠ b := fun z => by
  have e1 : (L.map (·.1))[i]? = some a := by rw [List.getElem?_map, e]; rfl
  have f1 : (L.map (·.1))[j]? = some b := by rw [List.getElem?_map, f]; rfl
  rw [z] at e1
  obtain ⟨hi, e2⟩ := List.getElem?_eq_some_iff.mp e1
  obtain ⟨hj, f2⟩ := List.getElem?_eq_some_iff.mp f1
  exact ij ((List.getElem_inj h.nd).mp (e2.trans f2.symm))
theorem Hs.put {H H' : Hp} {L : List (Addr × HO)} {a : Addr} {o : HO} (h : Hs H L H') (i : Nat) (o' : HO) (e : L[i]? = some (a, o) := by rfl) : Hs H (L.set i (a, o')) (upd H' a o') where
  all := fun b u q => by
    have ha := h.fr a o (List.mem_of_getElem? e)
    rw [upd_ne (ne_of_none q ha)]
    exact h.all b u q
  at' := fun b u hm => by
    obtain ⟨j, ej⟩ := List.getElem?_of_mem hm
    by_cases hj : i = j
    · subst hj
      have hi := (List.getElem?_eq_some_iff.mp e).1
      rw [List.getElem?_set_self hi] at ej
      cases ej
      exact upd_same
    · rw [List.getElem?_set_ne hj] at ej
      rw [upd_ne (Ne.symm (h.ne i j hj e ej))]
      exact h.at' b u (List.mem_of_getElem? ej)
  nd := by
    have : (L.set i (a, o')).map (·.1) = L.map (·.1) := by
      apply List.ext_getElem?
      intro j
      rw [List.getElem?_map, List.getElem?_map]
      by_cases hj : i = j
      · subst hj
        have hi := (List.getElem?_eq_some_iff.mp e).1
        rw [List.getElem?_set_self hi, e]; rfl
      · rw [List.getElem?_set_ne hj]
    rw [this]; exact h.nd
  fr := fun b u hm => by
    obtain ⟨j, ej⟩ := List.getElem?_of_mem hm
    by_cases hj : i = j
    · subst hj
      have hi := (List.getElem?_eq_some_iff.mp e).1
      rw [List.getElem?_set_self hi] at ej
      cases ej
      exact h.fr a o (List.mem_of_getElem? e)
    · rw [List.getElem?_set_ne hj] at ej
      exact h.fr b u (List.mem_of_getElem? ej)
theorem Hs.mono {H H' H'' : Hp} {L : List (Addr × HO)} (h : Hs H L H') (s : Same H' H'') : Hs H L H'' := ⟨h.all.trans s, fun a o m => s _ _ (h.at' a o m), h.nd, h.fr⟩
end L2
end
section
set_option Elab.async false
namespace K3
open PySem
def top (i : Nat) : Stmt := PySem.Challenge.pw_quadwords_k51_tables_written.main.body.getD i (.Pass ⟨0, 0, 0, 0⟩)
end K3
end
section
set_option Elab.async false
set_option linter.all false
set_option maxRecDepth 100000
set_option maxHeartbeats 4000000
namespace K3
open PySem PySem.Spec PyProof.Rows L2
abbrev sDraw : Stmt := top 27
def spDraw : Sp := fun vs H Q _ => ∃ (p : Addr) (m : Int), vs = [.ref p, .int m] ∧ Ds H p ∧ 1 ≤ m ∧ m < 1000000000000000000000000000000000 ∧ ∀ (r : Int) (H' : Hp), 0 ≤ r → r < m → Dr p H H' → Q (.int r) H'
section
variable {P : Program} {w : World} {K : PySem.W.Frag} {mg : Str → Option Value} {base : Heap}
theorem scDraw : FnScope ["draws", "many", "found"] ["draws", "many"] (defScope sDraw) := ⟨rfl, rfl, rfl, by decide +kernel, rfl, by decide +kernel, by decide +kernel⟩
theorem ok_draw {d : DD} (D : Def K mg "_law_draw" sDraw ["draws", "many"] d) : FnOk P w K mg base CX0 1 d.f d.fd ["draws", "many"] spDraw := by
  refine D.fn.ok scDraw (fun vs H Q E h => ?_) (fun cdv A outer s H vs Q E hr h => ?_)
  · obtain ⟨p, m, rfl, _⟩ := h
    rfl
  obtain ⟨p, m, rfl, ⟨a, b, c, hp, hb1, hb2, hc1, hc2⟩, hm1, hm2, q⟩ := h
  have nd := scDraw.nd
  refine ⟨_, (pss_cons (ps_if (pt_cmpR op_gt (pe_ix ix_list (pv 0) pe_int (fun _ _ => rfl)) pe_int (nomark _)) (pss_cons (ps_set (i := 2) nd rfl (Or.inl rfl) (pe_op op_mod (pe_ix ix_list (pv 0) pe_int (fun _ _ => rfl)) (pv 1))) (pss_cons (ps_asg (pe_op op_fdivB (pe_ix ix_list (pv 0) pe_int (fun _ _ => rfl)) (pv 1)) (pg_sub (pv 0) pe_int set_list)) (pss_one (ps_ret (pv 2))))) pss_nil) (pss_cons (ps_asg (pe_op op_add (pe_op op_mod (pe_op op_mul (pe_ix ix_list (pv 0) pe_int (fun _ _ => rfl)) pe_int) (pe_ix ix_list (pv 0) pe_int (fun _ _ => rfl))) pe_int) (pg_sub (pv 0) pe_int set_list)) (pss_one (ps_ret (pe_op op_mod (pe_op op_fdiv (pe_op op_mod (pe_op op_mul (pe_ix ix_list (pv 0) pe_int (fun _ _ => rfl)) (pe_op op_add (pe_op op_fdiv (pe_ix ix_list (pv 0) pe_int (fun _ _ => rfl)) pe_int) pe_int)) pe_int) pe_int) (pv 1)))))), ?_⟩
  have g0 : SqL K H p [.int a, .int b, .int c] := SqL.of hp
  refine ⟨_, rfl, p, _, 0, _, rfl, rfl, g0, rfl, _, _, rfl, rfl, _, rfl, ite2 (fun h1 => ?_) (fun h1 => ?_)⟩
  · refine ⟨_, rfl, p, _, 0, _, rfl, rfl, g0, rfl, _, rfl, _, _, rfl, rfl, by omega, ?_⟩
    refine ⟨_, rfl, p, _, 0, _, rfl, rfl, g0, rfl, _, rfl, _, _, rfl, rfl, ⟨by omega, by omega⟩, ?_⟩
    refine ⟨_, rfl, p, _, 0, 0, rfl, rfl, hp, rfl, ?_⟩
    refine ⟨_, rfl, ?_⟩
    exact q _ _ (Int.emod_nonneg _ (by omega)) (Int.emod_lt_of_pos _ (by omega)) (Dr.of_upd ⟨hb1, hb2, hc1, hc2⟩)
  · refine ⟨_, rfl, p, _, 1, _, rfl, rfl, g0, rfl, _, _, rfl, rfl, .inr ⟨by decide, by decide⟩, ?_⟩
    refine ⟨_, rfl, p, _, 2, _, rfl, rfl, g0, rfl, _, _, rfl, rfl, (show (0 : Int) < c by omega), _, _, rfl, rfl, ?_⟩
    refine ⟨_, rfl, p, _, 1, 1, rfl, rfl, hp, rfl, ?_⟩
    have e0 := Int.emod_nonneg (b * 69621) (show c ≠ 0 by omega)
    have e1 := Int.emod_lt_of_pos (b * 69621) (show (0 : Int) < c by omega)
    have z1 : 1 ≤ b * 69621 % c + 1 := by omega
    have z2 : b * 69621 % c + 1 ≤ 2147483648 := by omega
    have g1 : SqL K (upd H p (.lst [.int a, .int (b * 69621 % c + 1), .int c])) p [.int a, .int (b * 69621 % c + 1), .int c] := SqL.of upd_same
    have u0 : 0 ≤ (b * 69621 % c + 1) / 128 := Int.ediv_nonneg (by omega) (by decide)
    have u1 : (b * 69621 % c + 1) / 128 ≤ 16777216 := by omega
    refine ⟨_, rfl, p, _, 1, _, rfl, rfl, g1, rfl, _, rfl, p, _, 1, _, rfl, rfl, g1, rfl, _, _, rfl, rfl, ⟨by decide, by decide⟩, _, _, rfl, rfl, _, _, rfl, rfl, .inl ⟨?_, ?_⟩, _, _, rfl, rfl, (show (0 : Int) < 2147483423 by decide), _, _, rfl, rfl, ⟨by decide, by decide⟩, _, rfl, _, _, rfl, rfl, (show (0 : Int) < m by omega), ?_⟩
    · omega
    · omega
    exact q _ _ (Int.emod_nonneg _ (by omega)) (Int.emod_lt_of_pos _ (by omega)) (Dr.of_upd ⟨z1, z2, hc1, hc2⟩)
end
end K3
end
section
set_option Elab.async false
set_option linter.all false
set_option maxRecDepth 100000
set_option maxHeartbeats 4000000
namespace K3
open PySem PySem.Spec PyProof.Rows L2
section
variable {P : Program} {w : World} {K : PySem.W.Frag} {mg : Str → Option Value} {base : Heap}
end
end K3
end
section
set_option Elab.async false
set_option linter.all false
set_option maxRecDepth 100000
set_option maxHeartbeats 4000000
namespace K3
open PySem PySem.Spec PyProof.Rows L2
section
variable {P : Program} {w : World} {K : PySem.W.Frag} {mg : Str → Option Value} {base : Heap}
theorem line4 {n : Nat} (h : n ≤ 1000000) : n ≤ sizeLine := Nat.le_trans h (by rw [sizeLine_eq]; decide)
end
end K3
end
section
set_option Elab.async false
set_option linter.all false
set_option maxRecDepth 100000
set_option maxHeartbeats 4000000
namespace K3
open PySem PySem.Spec PyProof.Rows L2
section
variable {P : Program} {w : World} {K : PySem.W.Frag} {mg : Str → Option Value} {base : Heap}
def spProd (K : PySem.W.Frag) : Sp := fun vs H Q _ => ∃ u v s t n m, vs = [u, v] ∧ T4 K H u s ∧ T4 K H v t ∧ Bd n s ∧ Bd m t ∧ n ≤ 1048576 ∧ m ≤ 1048576 ∧ ∀ r H', Same H H' → T4o H' r (s.mul t) → Q r H'
def spWorth (K : PySem.W.Frag) : Sp := fun vs H Q _ => ∃ u t n, vs = [u] ∧ T4 K H u t ∧ Bd n t ∧ n ≤ 1048576 ∧ Q (.int t.worth) H
end
end K3
end
section
set_option Elab.async false
set_option linter.all false
set_option maxRecDepth 100000
set_option maxHeartbeats 4000000
namespace K3
open PySem PySem.Spec PyProof.Rows L2
section
variable {P : Program} {w : World} {K : PySem.W.Frag} {mg : Str → Option Value} {base : Heap}
end
end K3
end
section
set_option Elab.async false
set_option linter.all false
set_option maxRecDepth 100000
set_option maxHeartbeats 4000000
namespace K3
open PySem PySem.Spec PyProof.Rows L2
section
variable {P : Program} {w : World} {K : PySem.W.Frag} {mg : Str → Option Value} {base : Heap}
def prodL (ts : List Tb) : Tb := ts.foldl Tb.mul Tb.one
inductive TL (K : PySem.W.Frag) (H : Hp) : List V → List Tb → Prop where
  | nil : TL K H [] []
  | cons {v : V} {t : Tb} {vs : List V} {ts : List Tb} : T4 K H v t → TL K H vs ts → TL K H (v :: vs) (t :: ts)
def spPO (K : PySem.W.Frag) : Sp := fun vs H Q _ => ∃ l xs ts n, vs = [.ref l] ∧ SqL K H l xs ∧ TL K H xs ts ∧ (∀ t ∈ ts, Bd n t) ∧ (n + 1) * ts.length + 1 ≤ 1048576 ∧ n ≤ 1048576 ∧ ∀ r H', Same H H' → T4 K H' r (prodL ts) → Q r H'
end
end K3
end
section
set_option Elab.async false
set_option linter.all false
set_option maxRecDepth 100000
set_option maxHeartbeats 4000000
namespace K3
open PySem PySem.Spec PyProof.Rows L2
section
variable {P : Program} {w : World} {K : PySem.W.Frag} {mg : Str → Option Value} {base : Heap}
def spMade (K : PySem.W.Frag) : Sp := fun vs H Q _ => ∃ l xs ts n, vs = [.ref l] ∧ SqL K H l xs ∧ TL K H xs ts ∧ (∀ t ∈ ts, Bd n t) ∧ (n + 1) * ts.length + 1 ≤ 1048576 ∧ n ≤ 1048576 ∧ ∀ r H', Same H H' → T4o H' r (prodL ts) → Q r H'
def lts : List (Nat × Tb) := [(108, ⟨1, 0, 1, 1⟩), (114, ⟨1, 1, 0, 1⟩), (117, ⟨1, 2, 0, 1⟩), (118, ⟨1, 0, 2, 1⟩), (85, ⟨1, -2, 0, 1⟩), (86, ⟨1, 0, -2, 1⟩)]
def isLt (c : Nat) : Prop := c = 108 ∨ c = 114 ∨ c = 117 ∨ c = 118 ∨ c = 85 ∨ c = 86
def ltTb (c : Nat) : Tb := if c = 108 then ⟨1, 0, 1, 1⟩ else if c = 114 then ⟨1, 1, 0, 1⟩ else if c = 117 then ⟨1, 2, 0, 1⟩ else if c = 118 then ⟨1, 0, 2, 1⟩ else if c = 85 then ⟨1, -2, 0, 1⟩ else ⟨1, 0, -2, 1⟩
def spLet (K : PySem.W.Frag) : Sp := fun vs H Q _ => ∃ z : Str, vs = [.str z] ∧ z.cps.size ≤ 1000 ∧ (∀ c ∈ z.cps.toList, isLt c) ∧ ∀ r H', Same H H' → T4o H' r (prodL (z.cps.toList.map ltTb)) → Q r H'
def adr (t1 t2 t3 t4 t5 t6 : Addr) (c : Nat) : Addr := if c = 108 then t1 else if c = 114 then t2 else if c = 117 then t3 else if c = 118 then t4 else if c = 85 then t5 else t6
def kvsAll (t1 t2 t3 t4 t5 t6 : Addr) : List (Key × V) := mergeK (mergeK [] [(.inr "l", .ref t1), (.inr "r", .ref t2), (.inr "u", .ref t3), (.inr "v", .ref t4)]) (mergeK [] [(.inr "U", .ref t5), (.inr "V", .ref t6)])
end
end K3
end
section
set_option Elab.async false
set_option linter.all false
set_option maxRecDepth 100000
set_option maxHeartbeats 4000000
namespace K3
open PySem PySem.Spec PyProof.Rows L2
section
variable {P : Program} {w : World} {K : PySem.W.Frag} {mg : Str → Option Value} {base : Heap}
def spDraws (K : PySem.W.Frag) : Sp := fun vs H Q _ => ∃ (a : Addr) (ns : List Int) (k : Int), vs = [.ref a, .int k] ∧ SqL K H a (ns.map V.int) ∧ 0 ≤ k ∧ k ≤ 100 ∧ ∀ l H', Same H H' → H l = none → Ds H' l → Q (.ref l) H'
theorem sc_draws : FnScope ["script", "k", "primes", "cell", "seed"] ["script", "k"] (defScope (top 29)) := ⟨rfl, rfl, rfl, by decide +kernel, rfl, by decide +kernel, by decide +kernel⟩
def primes : List Int := [2147483647, 2147483629, 2147483587, 2147483579, 2147483563, 2147483549, 2147483543, 2147483497]
def seed1 (c k : Int) : Int := (c % 2147483423 + 3 * k + 1) * (48271 + 2 * k * k) % 2147483423
def seed2 (c k : Int) : Int := seed1 c k * seed1 c k * seed1 c k % 2147483399 + k + 1
theorem ok_draws {d : DD} (D : Def K mg "_law_draws" (top 29) ["script", "k"] d) (b_len : mg "len" = none) (b_int : mg "int" = none) : FnOk P w K mg base CX0 1 d.f d.fd ["script", "k"] (spDraws K) := by
  refine D.fn.ok sc_draws (fun vs H Q E h => ?_) (fun cdv A outer s H vs Q E hr h => ?_)
  · obtain ⟨a, ns, k, rfl, _⟩ := h
    rfl
  obtain ⟨a, ns, k, rfl, ha, k0, k1, q⟩ := h
  have hc := hr.calm
  have nd := sc_draws.nd
  obtain ⟨tr, hR, qR⟩ : ∃ t, PSs (cxOf CX0 P w K mg base ["script", "k", "primes", "cell", "seed"] "_law_draws" (defScope (top 29)) d.f cdv A outer s H E).nox ((defBody (top 29)).drop 3) t ∧
      ∀ (c : Int) (p : Addr), H p = none → t { nx := fun _ H' => Q .non H', rt := Q } [some (.ref a), some (.int k), some (.ref p), some (.int c), none] (upd H p (.tup (primes.map V.int))) := by
    refine ⟨_, (@pss_cons _ _ _ _ _ (@ps_set _ _ (4) _ _ _ _ nd rfl (Or.inl rfl) (@pe_op _ _ _ _ _ _ _ _ op_mod (@pe_op _ _ _ _ _ _ _ _ op_mul (@pe_op _ _ _ _ _ _ _ _ op_add (@pe_op _ _ _ _ _ _ _ _ op_add (@pe_op _ _ _ _ _ _ _ _ op_mod (pv 3) (@pe_int _ _ _ _)) (@pe_op _ _ _ _ _ _ _ _ op_mul (@pe_int _ _ _ _) (pv 1))) (@pe_int _ _ _ _)) (@pe_op _ _ _ _ _ _ _ _ op_add (@pe_int _ _ _ _) (@pe_op _ _ _ _ _ _ _ _ op_mul (@pe_op _ _ _ _ _ _ _ _ op_mul (@pe_int _ _ _ _) (pv 1)) (pv 1)))) (@pe_int _ _ _ _)) (by rfl) (by first | exact .inl rfl | exact .inr rfl | assumption)) (@pss_cons _ _ _ _ _ (@ps_set _ _ (4) _ _ _ _ nd rfl (Or.inl rfl) (@pe_op _ _ _ _ _ _ _ _ op_add (@pe_op _ _ _ _ _ _ _ _ op_add (@pe_op _ _ _ _ _ _ _ _ op_mod (@pe_op _ _ _ _ _ _ _ _ op_mul (@pe_op _ _ _ _ _ _ _ _ op_mul (pv 4) (pv 4)) (pv 4)) (@pe_int _ _ _ _)) (pv 1)) (@pe_int _ _ _ _)) (by rfl) (by first | exact .inl rfl | exact .inr rfl | assumption)) (@pss_one _ _ _ (@ps_ret _ _ _ _ (@pe_lst _ _ _ _ (@pa_cons _ _ _ _ _ (@pe_op _ _ _ _ _ _ _ _ op_mul (pv 3) (@pe_callTy _ _ _ _ _ _ _ _ _ call_int1 rfl b_int bt_int (@pa_cons _ _ _ _ _ (@pe_cmpR _ _ _ _ _ _ _ _ op_ge (pv 3) (@pe_op _ _ _ _ _ _ _ _ op_pow (@pe_int _ _ _ _) (@pe_int _ _ _ _)) (nomark _)) (@pa_nil _) (by rfl)) (by decide) (by decide) (by rfl) (by rfl))) (@pa_cons _ _ _ _ _ (pv 4) (@pa_cons _ _ _ _ _ (@pe_ix _ _ _ _ _ _ _ ix_tup (pv 2) (@pe_op _ _ _ _ _ _ _ _ op_mod (pv 1) (@pe_int _ _ _ _)) (fun _ _ => rfl)) (@pa_nil _) (by rfl)) st_n) (by rfl))))))), fun c p hp => ?_⟩
    have c0 := Int.emod_nonneg c (show (2147483423 : Int) ≠ 0 by decide)
    have c1 := Int.emod_lt_of_pos c (show (0 : Int) < 2147483423 by decide)
    refine ⟨_, rfl, _, _, rfl, rfl, (show (0 : Int) < 2147483423 by decide), _, rfl, _, _, rfl, rfl, .inl ⟨by decide, by decide⟩, _, _, rfl, rfl, _, _, rfl, rfl, _, rfl, _, _, rfl, rfl, .inl ⟨by decide, by decide⟩, _, rfl, _, _, rfl, rfl, .inl ⟨by omega, by omega⟩, _, _, rfl, rfl, _, _, rfl, rfl, .inl ⟨by omega, by omega⟩, _, _, rfl, rfl, (show (0 : Int) < 2147483423 by decide), ?_⟩
    have z0 : 0 ≤ seed1 c k := Int.emod_nonneg _ (by decide)
    have z1 : seed1 c k < 2147483423 := Int.emod_lt_of_pos _ (by decide)
    have zz0 : 0 ≤ seed1 c k * seed1 c k := Int.mul_nonneg z0 z0
    have zz1 : seed1 c k * seed1 c k < 2 ^ 64 := Int.lt_of_le_of_lt (Int.mul_le_mul (Int.le_of_lt z1) (Int.le_of_lt z1) z0 (by decide)) (by decide)
    refine ⟨_, rfl, _, rfl, _, _, rfl, rfl, .inl ⟨?_, ?_⟩, _, rfl, _, _, rfl, rfl, .inl ⟨?_, ?_⟩, _, _, rfl, rfl, (show (0 : Int) < 2147483399 by decide), _, rfl, _, _, rfl, rfl, _, _, rfl, rfl, ?_⟩
    · exact Int.lt_of_lt_of_le (by decide) z0
    · exact Int.lt_trans z1 (by decide)
    · exact Int.lt_of_lt_of_le (by decide) zz0
    · exact zz1
    have y0 : 1 ≤ seed2 c k ∧ seed2 c k ≤ 2147483648 := by
      have := Int.emod_nonneg (seed1 c k * seed1 c k * seed1 c k) (show (2147483399 : Int) ≠ 0 by decide)
      have := Int.emod_lt_of_pos (seed1 c k * seed1 c k * seed1 c k) (show (0 : Int) < 2147483399 by decide)
      unfold seed2
      omega
    have g8 : 0 ≤ k % 8 ∧ k % 8 < 8 := ⟨Int.emod_nonneg _ (by decide), Int.emod_lt_of_pos _ (by decide)⟩
    have pr : ∃ r : Int, atI (primes.map V.int) (k % 8) = some (.int r) ∧ 1000000000 ≤ r ∧ r ≤ 2147483647 := by
      generalize k % 8 = j at g8
      have : j = 0 ∨ j = 1 ∨ j = 2 ∨ j = 3 ∨ j = 4 ∨ j = 5 ∨ j = 6 ∨ j = 7 := by omega
      rcases this with rfl | rfl | rfl | rfl | rfl | rfl | rfl | rfl <;> exact ⟨_, rfl, by decide, by decide⟩
    obtain ⟨r, er, r0, r1⟩ := pr
    refine ⟨_, rfl, _, rfl, _, _, rfl, rfl, ⟨by decide, by decide, by decide⟩, _, _, rfl, rfl, .inr ⟨_, rfl, _, _, rfl, rfl, .inr ⟨?_, ?_⟩, _, rfl, _, rfl, _, rfl, _, _, rfl, rfl, (show (0 : Int) < 8 by decide), p, _, _, _, rfl, rfl, SqT.of upd_same, er, line4 (by show 3 ≤ 1000000; decide), fun l hl => ?_⟩⟩
    · split <;> decide
    · split <;> decide
    have S1 := same_new hp (.tup (primes.map V.int))
    exact q l _ (S1.trans (same_new hl _)) (S1.free hl) ⟨_, seed2 c k, r, upd_same, y0.1, y0.2, r0, r1⟩
  refine ⟨_, (@pss_cons _ _ _ _ _ (@ps_set _ _ (2) _ _ _ _ nd rfl (Or.inl rfl) (@pe_tup _ _ _ _ _ (@pa_cons _ _ _ _ _ (@pe_int _ _ _ _) (@pa_cons _ _ _ _ _ (@pe_int _ _ _ _) (@pa_cons _ _ _ _ _ (@pe_int _ _ _ _) (@pa_cons _ _ _ _ _ (@pe_int _ _ _ _) (@pa_cons _ _ _ _ _ (@pe_int _ _ _ _) (@pa_cons _ _ _ _ _ (@pe_int _ _ _ _) (@pa_cons _ _ _ _ _ (@pe_int _ _ _ _) (@pa_cons _ _ _ _ _ (@pe_int _ _ _ _) (@pa_nil _) st_c) st_c) st_c) st_c) st_c) st_c) st_c) st_c)) (by rfl) (by first | exact .inl rfl | exact .inr rfl | assumption)) (@pss_cons _ _ _ _ _ (@ps_set _ _ (3) _ _ _ _ nd rfl (Or.inl rfl) (@pe_op _ _ _ _ _ _ _ _ op_add (@pe_op _ _ _ _ _ _ _ _ op_mul (@pe_int _ _ _ _) (pv 1)) (@pe_int _ _ _ _)) (by rfl) (by first | exact .inl rfl | exact .inr rfl | assumption)) (@pss_cons _ _ _ _ _ (@ps_if _ _ _ _ _ _ _ _ (@pt_cmpR _ _ _ _ _ _ _ _ op_lt (pv 1) (@pe_callB _ _ _ _ _ _ _ _ _ call_len_seq rfl b_len bt_len (@pa_cons _ _ _ _ _ (pv 0) (@pa_nil _) st_n) (by decide) (by decide) (by rfl) (by rfl)) (nomark _)) (@pss_one _ _ _ (@ps_set _ _ (3) _ _ _ _ nd rfl (Or.inl rfl) (@pe_op _ _ _ _ _ _ _ _ op_mod (@pe_ix _ _ _ _ _ _ _ ix_list (pv 0) (pv 1) (fun _ _ => rfl)) (@pe_op _ _ _ _ _ _ _ _ op_mulB (@pe_op _ _ _ _ _ _ _ _ op_pow (@pe_int _ _ _ _) (@pe_int _ _ _ _)) (@pe_op _ _ _ _ _ _ _ _ op_pow (@pe_int _ _ _ _) (@pe_int _ _ _ _)))) (by rfl) (by first | exact .inl rfl | exact .inr rfl | assumption))) (@pss_one _ _ _ (@ps_if _ _ _ _ _ _ _ _ (@pt_cmpR _ _ _ _ _ _ _ _ op_gt (@pe_callB _ _ _ _ _ _ _ _ _ call_len_seq rfl b_len bt_len (@pa_cons _ _ _ _ _ (pv 0) (@pa_nil _) st_n) (by decide) (by decide) (by rfl) (by rfl)) (@pe_int _ _ _ _) (nomark _)) (@pss_one _ _ _ (@ps_set _ _ (3) _ _ _ _ nd rfl (Or.inl rfl) (@pe_op _ _ _ _ _ _ _ _ op_add (@pe_op _ _ _ _ _ _ _ _ op_mod (@pe_ix _ _ _ _ _ _ _ ix_list (pv 0) (@pe_op _ _ _ _ _ _ _ _ op_mod (pv 1) (@pe_callB _ _ _ _ _ _ _ _ _ call_len_seq rfl b_len bt_len (@pa_cons _ _ _ _ _ (pv 0) (@pa_nil _) st_n) (by decide) (by decide) (by rfl) (by rfl))) (fun _ _ => rfl)) (@pe_op _ _ _ _ _ _ _ _ op_pow (@pe_int _ _ _ _) (@pe_int _ _ _ _))) (@pe_op _ _ _ _ _ _ _ _ op_mul (@pe_int _ _ _ _) (pv 1))) (by rfl) (by first | exact .inl rfl | exact .inr rfl | assumption))) (@pss_nil _)))) hR))), ?_⟩
  refine ⟨line4 (by show 8 ≤ 1000000; decide), fun p hp => ?_⟩
  have S1 := same_new hp (.tup (primes.map V.int))
  have ha1 : SqL K (upd H p (.tup (primes.map V.int))) a (ns.map V.int) := S1.seq ha
  have hl : (ns.map V.int).length = ns.length := List.length_map _
  refine ⟨_, rfl, _, _, rfl, rfl, .inl ⟨by decide, by decide⟩, _, _, rfl, rfl, ?_⟩
  refine ⟨_, rfl, _, rfl, a, _, rfl, .inl ha1, _, _, rfl, rfl, _, rfl, ite2 (fun h1 => ?_) (fun h1 => ?_)⟩
  · have h1' : k < (((ns.map V.int).length : Nat) : Int) := of_decide_eq_true h1
    rw [hl] at h1'
    obtain ⟨v, ev⟩ : ∃ v : Int, atI (ns.map V.int) k = some (.int v) := by
      have hk : k.toNat < ns.length := by omega
      have ek : k = ((k.toNat : Nat) : Int) := by omega
      have e := atI_nat (xs := ns.map V.int) (j := k.toNat) (v := .int ns[k.toNat]) (by rw [List.getElem?_map, List.getElem?_eq_getElem hk]; rfl)
      rw [← ek] at e
      exact ⟨ns[k.toNat], e⟩
    refine ⟨_, rfl, _, rfl, a, _, _, _, rfl, rfl, ha1, ev, _, _, rfl, rfl, ⟨by decide, by decide, by decide⟩, _, _, rfl, rfl, ⟨by decide, by decide, by decide⟩, _, _, rfl, rfl, Lt2.big (n := 200) (m := 200) (by show (10 ^ 60 : Int).natAbs < 2 ^ 200; decide) (by show (10 ^ 60 : Int).natAbs < 2 ^ 200; decide) (by decide) (by decide), _, _, rfl, rfl, (show (0 : Int) < 10 ^ 60 * 10 ^ 60 by decide), ?_⟩
    exact qR _ p hp
  · refine ⟨_, rfl, a, _, rfl, .inl ha1, _, _, rfl, rfl, _, rfl, ite2 (fun h2 => ?_) (fun h2 => ?_)⟩
    · have h2' : (0 : Int) < (((ns.map V.int).length : Nat) : Int) := of_decide_eq_true h2
      rw [hl] at h2'
      have m0 := Int.emod_nonneg k (show (ns.length : Int) ≠ 0 by omega)
      have m1 := Int.emod_lt_of_pos k h2'
      obtain ⟨v, ev⟩ : ∃ v : Int, atI (ns.map V.int) (k % (((ns.map V.int).length : Nat) : Int)) = some (.int v) := by
        rw [hl]
        generalize k % (ns.length : Int) = j at m0 m1
        have hk : j.toNat < ns.length := by omega
        have ek : j = ((j.toNat : Nat) : Int) := by omega
        have e := atI_nat (xs := ns.map V.int) (j := j.toNat) (v := .int ns[j.toNat]) (by rw [List.getElem?_map, List.getElem?_eq_getElem hk]; rfl)
        rw [← ek] at e
        exact ⟨ns[j.toNat], e⟩
      refine ⟨_, rfl, _, rfl, _, rfl, a, _, rfl, .inl ha1, _, _, rfl, rfl, (show (0 : Int) < (((ns.map V.int).length : Nat) : Int) by rw [hl]; exact h2'), a, _, _, _, rfl, rfl, ha1, ev, _, _, rfl, rfl, ⟨by decide, by decide, by decide⟩, _, _, rfl, rfl, (show (0 : Int) < 10 ^ 15 by decide), _, rfl, _, _, rfl, rfl, .inl ⟨by decide, by decide⟩, _, _, rfl, rfl, ?_⟩
      exact qR _ p hp
    · exact qR _ p hp
end
end K3
end
section
set_option Elab.async false
set_option linter.all false
set_option maxRecDepth 100000
set_option maxHeartbeats 4000000
namespace K3
open PySem PySem.Spec PyProof.Rows L2
section
variable {P : Program} {w : World} {K : PySem.W.Frag} {mg : Str → Option Value} {base : Heap}
structure Cls (mg : Str → Option Value) (cl : List Addr) : Prop where
  m_NoBack : mg "NoBack" = some (.ref (cl.getD 0 0))
  m_NoCount : mg "NoCount" = some (.ref (cl.getD 1 0))
  m_NoMakers : mg "NoMakers" = some (.ref (cl.getD 2 0))
  m_NoName : mg "NoName" = some (.ref (cl.getD 3 0))
  m_NoPlain : mg "NoPlain" = some (.ref (cl.getD 4 0))
  m_NoRow : mg "NoRow" = some (.ref (cl.getD 5 0))
  m_NoText : mg "NoText" = some (.ref (cl.getD 6 0))
  m_NoWide : mg "NoWide" = some (.ref (cl.getD 7 0))
  m_NoWord : mg "NoWord" = some (.ref (cl.getD 8 0))
  m_TooLong : mg "TooLong" = some (.ref (cl.getD 9 0))
  m_NoMill : mg "NoMill" = some (.ref (cl.getD 10 0))
  b_isinstance : mg "isinstance" = none
  b_range : mg "range" = none
  b_ValueError : mg "ValueError" = none
def pk : List Str → List Bool → List Str
  | n :: ns, true :: bs => n :: pk ns bs
  | _ :: ns, false :: bs => pk ns bs
  | _, _ => []
theorem pk_snoc (n : Str) (b : Bool) : ∀ (ns : List Str) (bs : List Bool), ns.length = bs.length → pk (ns ++ [n]) (bs ++ [b]) = pk ns bs ++ (if b = true then [n] else [])
  | [], [], _ => by cases b <;> rfl
  | x :: ns, true :: bs, h => by show x :: pk (ns ++ [n]) (bs ++ [b]) = _; rw [pk_snoc n b ns bs (by simpa using h)]; rfl
  | x :: ns, false :: bs, h => by show pk (ns ++ [n]) (bs ++ [b]) = _; rw [pk_snoc n b ns bs (by simpa using h)]; rfl
  | [], _ :: _, h => by cases h
  | _ :: _, [], h => by cases h
theorem pk_sum : ∀ (ns : List Str) (bs : List Bool), ((pk ns bs).map (·.length)).sum ≤ (ns.map (·.length)).sum ∧ (pk ns bs).length ≤ ns.length
  | [], bs => by cases bs <;> exact ⟨Nat.le_refl _, Nat.le_refl _⟩
  | x :: ns, [] => ⟨Nat.zero_le _, Nat.zero_le _⟩
  | x :: ns, true :: bs => by
    have := pk_sum ns bs
    show (x.length + ((pk ns bs).map (·.length)).sum) ≤ x.length + (ns.map (·.length)).sum ∧ (pk ns bs).length + 1 ≤ ns.length + 1
    omega
  | x :: ns, false :: bs => by
    have := pk_sum ns bs
    show ((pk ns bs).map (·.length)).sum ≤ x.length + (ns.map (·.length)).sum ∧ (pk ns bs).length ≤ ns.length + 1
    omega
abbrev kNames : List Str := ["NoBack", "NoCount", "NoMakers", "NoName", "NoPlain", "NoRow", "NoText", "NoWide", "NoWord", "TooLong", "NoMill", "+"]
def spKind (K : PySem.W.Frag) (cl : List Addr) : Addr → List V → Hp → VK → Prop := fun x vs H Q => ∃ C b0 b1 b2 b3 b4 b5 b6 b7 b8 b9 b10 b11, vs = [.ref x] ∧ H x = some (ExcO x (.ref C)) ∧ ExcK K C ∧
  PySem.W.kitOne K (.ref C) (.ref (cl.getD 0 0)) = some b0 ∧ PySem.W.kitOne K (.ref C) (.ref (cl.getD 1 0)) = some b1 ∧ PySem.W.kitOne K (.ref C) (.ref (cl.getD 2 0)) = some b2 ∧ PySem.W.kitOne K (.ref C) (.ref (cl.getD 3 0)) = some b3 ∧ PySem.W.kitOne K (.ref C) (.ref (cl.getD 4 0)) = some b4 ∧ PySem.W.kitOne K (.ref C) (.ref (cl.getD 5 0)) = some b5 ∧ PySem.W.kitOne K (.ref C) (.ref (cl.getD 6 0)) = some b6 ∧ PySem.W.kitOne K (.ref C) (.ref (cl.getD 7 0)) = some b7 ∧ PySem.W.kitOne K (.ref C) (.ref (cl.getD 8 0)) = some b8 ∧ PySem.W.kitOne K (.ref C) (.ref (cl.getD 9 0)) = some b9 ∧ PySem.W.kitOne K (.ref C) (.ref (cl.getD 10 0)) = some b10 ∧ PySem.W.kitOne K (.ref C) (.type "ValueError") = some b11 ∧ ∀ H', Same H H' → Q (.str (Txt.join "" (pk kNames [b0, b1, b2, b3, b4, b5, b6, b7, b8, b9, b10, b11]))) H'
theorem kind_loop {x C p4 p7 : Addr} {H Hc : Hp} {Q : VK} {b0 b1 b2 b3 b4 b5 b6 b7 b8 b9 b10 b11 : Bool} (hx : H x = some (ExcO x (.ref C))) (x8 : Hc x = some (ExcO x (.ref C))) (gB : Hc p4 = some (.lst ([b0, b1, b2, b3, b4, b5, b6, b7, b8, b9, b10, b11].map V.bl))) (gN : Hc p7 = some (.lst (kNames.map V.str)))
    (all : Same H Hc) (q : ∀ H', Same H H' → Q (.str (Txt.join "" (pk kNames [b0, b1, b2, b3, b4, b5, b6, b7, b8, b9, b10, b11]))) H') :
    CompW (Itx x (.ref C) 12) 1 [1, 2] (gName 0) (tB (tOp (rIxL K) (tVar 1) (tVar 0))) (tOp (rIxL K) (tVar 2) (tVar 0)) [some (.ref x), some (.ref p4), some (.ref p7)] Hc (fun v H1 => tNil [some (.ref x), some (.ref p4), some (.ref p7)] H1 fun xs H2 => rJoin K (.str "") (v :: xs) H2 Q) := by
  generalize hbs : [b0, b1, b2, b3, b4, b5, b6, b7, b8, b9, b10, b11] = bs at gB q
  have lb : bs.length = 12 := by rw [← hbs]; rfl
  refine comp_by (n := 12) (fun i ys H' => H' = Hc ∧ ys = (pk (kNames.take i) (bs.take i)).map V.str) ⟨rfl, rfl⟩ (fun i ys H' hi z => ?_) (line4 (by decide)) (fun i ys H' hi z => hi) (fun ys H' z => ⟨Nat.le_refl _, by rw [z.1]; exact x8⟩) (fun i ys H' v H'' hi z y => ?_) (fun ys H' z p hp => ?_)
  · rw [z.2, List.length_map]
    have := (pk_sum (kNames.take i) (bs.take i)).2
    rw [List.length_take] at this
    omega
  · obtain ⟨rfl, rfl⟩ := z
    obtain ⟨rfl, rfl⟩ := y
    have hib : i < bs.length := by omega
    have hin : i < kNames.length := hi
    have ab : atI (bs.map V.bl) (i : Int) = some (.bl bs[i]) := atI_nat (by rw [List.getElem?_map, List.getElem?_eq_getElem hib]; rfl)
    have an : atI (kNames.map V.str) (i : Int) = some (.str kNames[i]) := atI_nat (by rw [List.getElem?_map, List.getElem?_eq_getElem hin]; rfl)
    have sn : pk (kNames.take (i + 1)) (bs.take (i + 1)) = pk (kNames.take i) (bs.take i) ++ (if bs[i] = true then [kNames[i]] else []) := by
      rw [List.take_add_one, List.take_add_one, List.getElem?_eq_getElem hib, List.getElem?_eq_getElem hin]
      exact pk_snoc _ _ _ _ (by rw [List.length_take, List.length_take]; omega)
    refine ⟨_, rfl, _, rfl, p4, _, _, _, rfl, rfl, SqL.of gB, ab, _, rfl, ite2 (fun hb => ?_) (fun hb => ?_)⟩
    · refine ⟨_, rfl, _, rfl, p7, _, _, _, rfl, rfl, SqL.of gN, an, Nx.mk hi ⟨rfl, ?_⟩⟩
      rw [sn, if_pos hb, List.map_append]
      rfl
    · refine Nx.mk hi ⟨rfl, ?_⟩
      rw [sn, if_neg hb, List.append_nil]
  · obtain ⟨rfl, rfl⟩ := z
    refine ⟨"", p, pk kNames bs, rfl, rfl, ?_, ?_, q _ (all.trans (same_new hp _))⟩
    · have e1 : kNames.take 12 = kNames := rfl
      have e2 : bs.take 12 = bs := List.take_of_length_le (by omega)
      rw [e1, e2]
      exact SqL.of upd_same
    · have := (pk_sum kNames bs).1
      have z : (kNames.map (·.length)).sum ≤ 100 := by decide +kernel
      have z2 : ("" : Str).length = 0 := rfl
      rw [z2]
      omega
theorem sc_kind : FnScope ["e", "some", "names"] ["e"] (defScope (top 23)) := ⟨rfl, rfl, rfl, by decide +kernel, rfl, by decide +kernel, by decide +kernel⟩
theorem ok_kind {d : DD} {cl : List Addr} (M : Cls mg cl) (D : Def K mg "_law_kind" (top 23) ["e"] d) : FnX P w K mg base 1 d.f d.fd ["e"] (spKind K cl) := by
  refine D.fn.okX sc_kind (fun x vs H Q h => ?_) (fun x cdv A outer s H vs Q hr h => ?_)
  · obtain ⟨C, b0, b1, b2, b3, b4, b5, b6, b7, b8, b9, b10, b11, rfl, _⟩ := h
    rfl
  obtain ⟨C, b0, b1, b2, b3, b4, b5, b6, b7, b8, b9, b10, b11, rfl, hx, Z, e0, e1, e2, e3, e4, e5, e6, e7, e8, e9, e10, e11, q⟩ := h
  have nd := sc_kind.nd
  refine ⟨_, (@pss_cons _ _ _ _ _ (@ps_set _ _ (1) _ _ _ _ nd rfl (Or.inr rfl) (@pe_lst _ _ _ _ (@pa_cons _ _ _ _ _ (@pe_callB _ _ _ _ _ _ _ _ _ call_isX rfl M.b_isinstance bt_isinstance (@pa_cons _ _ _ _ _ (pv 0) (@pa_cons _ _ _ _ _ (@pe_glob _ _ (.ref (cl.getD 0 0)) _ _ rfl (M.m_NoBack) rfl (by decide)) (@pa_nil _) st_n) st_n) (by decide) (by decide) (by rfl) (by rfl)) (@pa_cons _ _ _ _ _ (@pe_callB _ _ _ _ _ _ _ _ _ call_isX rfl M.b_isinstance bt_isinstance (@pa_cons _ _ _ _ _ (pv 0) (@pa_cons _ _ _ _ _ (@pe_glob _ _ (.ref (cl.getD 1 0)) _ _ rfl (M.m_NoCount) rfl (by decide)) (@pa_nil _) st_n) st_n) (by decide) (by decide) (by rfl) (by rfl)) (@pa_cons _ _ _ _ _ (@pe_callB _ _ _ _ _ _ _ _ _ call_isX rfl M.b_isinstance bt_isinstance (@pa_cons _ _ _ _ _ (pv 0) (@pa_cons _ _ _ _ _ (@pe_glob _ _ (.ref (cl.getD 2 0)) _ _ rfl (M.m_NoMakers) rfl (by decide)) (@pa_nil _) st_n) st_n) (by decide) (by decide) (by rfl) (by rfl)) (@pa_cons _ _ _ _ _ (@pe_callB _ _ _ _ _ _ _ _ _ call_isX rfl M.b_isinstance bt_isinstance (@pa_cons _ _ _ _ _ (pv 0) (@pa_cons _ _ _ _ _ (@pe_glob _ _ (.ref (cl.getD 3 0)) _ _ rfl (M.m_NoName) rfl (by decide)) (@pa_nil _) st_n) st_n) (by decide) (by decide) (by rfl) (by rfl)) (@pa_nil _) st_f) st_f) st_f) st_f)) (by rfl) (by first | exact .inl rfl | exact .inr rfl | assumption)) (@pss_cons _ _ _ _ _ (@ps_set _ _ (1) _ _ _ _ nd rfl (Or.inr rfl) (@pe_op _ _ _ _ _ _ _ _ op_cat (pv 1) (@pe_lst _ _ _ _ (@pa_cons _ _ _ _ _ (@pe_callB _ _ _ _ _ _ _ _ _ call_isX rfl M.b_isinstance bt_isinstance (@pa_cons _ _ _ _ _ (pv 0) (@pa_cons _ _ _ _ _ (@pe_glob _ _ (.ref (cl.getD 4 0)) _ _ rfl (M.m_NoPlain) rfl (by decide)) (@pa_nil _) st_n) st_n) (by decide) (by decide) (by rfl) (by rfl)) (@pa_cons _ _ _ _ _ (@pe_callB _ _ _ _ _ _ _ _ _ call_isX rfl M.b_isinstance bt_isinstance (@pa_cons _ _ _ _ _ (pv 0) (@pa_cons _ _ _ _ _ (@pe_glob _ _ (.ref (cl.getD 5 0)) _ _ rfl (M.m_NoRow) rfl (by decide)) (@pa_nil _) st_n) st_n) (by decide) (by decide) (by rfl) (by rfl)) (@pa_cons _ _ _ _ _ (@pe_callB _ _ _ _ _ _ _ _ _ call_isX rfl M.b_isinstance bt_isinstance (@pa_cons _ _ _ _ _ (pv 0) (@pa_cons _ _ _ _ _ (@pe_glob _ _ (.ref (cl.getD 6 0)) _ _ rfl (M.m_NoText) rfl (by decide)) (@pa_nil _) st_n) st_n) (by decide) (by decide) (by rfl) (by rfl)) (@pa_cons _ _ _ _ _ (@pe_callB _ _ _ _ _ _ _ _ _ call_isX rfl M.b_isinstance bt_isinstance (@pa_cons _ _ _ _ _ (pv 0) (@pa_cons _ _ _ _ _ (@pe_glob _ _ (.ref (cl.getD 7 0)) _ _ rfl (M.m_NoWide) rfl (by decide)) (@pa_nil _) st_n) st_n) (by decide) (by decide) (by rfl) (by rfl)) (@pa_nil _) st_f) st_f) st_f) st_f))) (by rfl) (by first | exact .inl rfl | exact .inr rfl | assumption)) (@pss_cons _ _ _ _ _ (@ps_set _ _ (1) _ _ _ _ nd rfl (Or.inr rfl) (@pe_op _ _ _ _ _ _ _ _ op_cat (pv 1) (@pe_lst _ _ _ _ (@pa_cons _ _ _ _ _ (@pe_callB _ _ _ _ _ _ _ _ _ call_isX rfl M.b_isinstance bt_isinstance (@pa_cons _ _ _ _ _ (pv 0) (@pa_cons _ _ _ _ _ (@pe_glob _ _ (.ref (cl.getD 8 0)) _ _ rfl (M.m_NoWord) rfl (by decide)) (@pa_nil _) st_n) st_n) (by decide) (by decide) (by rfl) (by rfl)) (@pa_cons _ _ _ _ _ (@pe_callB _ _ _ _ _ _ _ _ _ call_isX rfl M.b_isinstance bt_isinstance (@pa_cons _ _ _ _ _ (pv 0) (@pa_cons _ _ _ _ _ (@pe_glob _ _ (.ref (cl.getD 9 0)) _ _ rfl (M.m_TooLong) rfl (by decide)) (@pa_nil _) st_n) st_n) (by decide) (by decide) (by rfl) (by rfl)) (@pa_cons _ _ _ _ _ (@pe_callB _ _ _ _ _ _ _ _ _ call_isX rfl M.b_isinstance bt_isinstance (@pa_cons _ _ _ _ _ (pv 0) (@pa_cons _ _ _ _ _ (@pe_glob _ _ (.ref (cl.getD 10 0)) _ _ rfl (M.m_NoMill) rfl (by decide)) (@pa_nil _) st_n) st_n) (by decide) (by decide) (by rfl) (by rfl)) (@pa_cons _ _ _ _ _ (@pe_callB _ _ _ _ _ _ _ _ _ call_isX rfl M.b_isinstance bt_isinstance (@pa_cons _ _ _ _ _ (pv 0) (@pa_cons _ _ _ _ _ (@pe_bltn _ _ (.ty "ValueError") _ _ rfl M.b_ValueError bt_ValueError rfl (by decide) (by decide)) (@pa_nil _) st_n) st_n) (by decide) (by decide) (by rfl) (by rfl)) (@pa_nil _) st_f) st_f) st_f) st_f))) (by rfl) (by first | exact .inl rfl | exact .inr rfl | assumption)) (@pss_cons _ _ _ _ _ (@ps_set _ _ (2) _ _ _ _ nd rfl (Or.inr rfl) (@pe_lst _ _ _ _ (@pa_strs _ _ (["NoBack", "NoCount", "NoMakers", "NoName", "NoPlain", "NoRow", "NoText", "NoWide", "NoWord", "TooLong"]) rfl)) (by rfl) (by first | exact .inl rfl | exact .inr rfl | assumption)) (@pss_cons _ _ _ _ _ (@ps_set _ _ (2) _ _ _ _ nd rfl (Or.inr rfl) (@pe_op _ _ _ _ _ _ _ _ op_cat (pv 2) (@pe_lst _ _ _ _ (@pa_cons _ _ _ _ _ (@pe_str _ _ _ _) (@pa_cons _ _ _ _ _ (@pe_str _ _ _ _) (@pa_nil _) st_c) st_c))) (by rfl) (by first | exact .inl rfl | exact .inr rfl | assumption)) (@pss_one _ _ _ (@ps_ret _ _ _ _ (@pe_bm _ _ _ _ _ _ _ _ _ _ _ _ PySem.F.plainAttrs_str PySem.F.slot_str_join PySem.F.type_str_join mt_join (@pe_str _ _ _ _) (@pa_cons _ _ _ _ _ (@pe_compX _ _ _ _ _ _ _ _ _ _ _ _ _ _ _ _ _ hr.hd (compScope_of (ts := ["k"]) (cap := ["some", "names"]) (js := [1, 2]) rfl rfl rfl rfl rfl rfl (by decide +kernel)) rfl M.b_range (@pa_cons _ _ _ _ _ (@pe_int _ _ _ _) (@pa_nil _) st_c) (fun _ _ _ _ => @pg_name _ _ (0) _ (show (["k", "some", "names"] : List Str).Nodup by decide +kernel) rfl (Or.inl rfl) (.inr rfl)) (fun _ _ _ _ => @pts_one _ _ _ (@pt_val _ _ _ (@pe_ix _ _ _ _ _ _ _ (show IxR _ (rIxL K) from ix_list) (pv 1) (pv 0) (fun _ _ => rfl)) (by intro _; rfl))) (fun _ _ _ _ => (@pe_ix _ _ _ _ _ _ _ (show IxR _ (rIxL K) from ix_list) (pv 2) (pv 0) (fun _ _ => rfl))) (by rfl) (by intro _; rfl)) (@pa_nil _) (by rfl)) (by rfl) (by rfl) (by rfl) (by rfl) (by rfl))))))))), ?_⟩
  refine ⟨_, rfl, x, _, C, _, b0, rfl, rfl, hx, Z, e0, _, rfl, x, _, C, _, b1, rfl, rfl, hx, Z, e1, _, rfl, x, _, C, _, b2, rfl, rfl, hx, Z, e2, _, rfl, x, _, C, _, b3, rfl, rfl, hx, Z, e3, line4 (by show 4 ≤ 1000000; decide), fun p0 hp0 => ?_⟩
  have T1 := same_new hp0 (.lst [.bl b0, .bl b1, .bl b2, .bl b3])
  have x1 := T1 _ _ hx
  refine ⟨_, rfl, _, rfl, x, _, C, _, b4, rfl, rfl, x1, Z, e4, _, rfl, x, _, C, _, b5, rfl, rfl, x1, Z, e5, _, rfl, x, _, C, _, b6, rfl, rfl, x1, Z, e6, _, rfl, x, _, C, _, b7, rfl, rfl, x1, Z, e7, line4 (by show 4 ≤ 1000000; decide), fun p1 hp1 => ?_⟩
  have T2 := same_new hp1 (.lst [.bl b4, .bl b5, .bl b6, .bl b7])
  refine ⟨p0, p1, _, _, rfl, rfl, T2 _ _ upd_same, upd_same, line4 (by show 8 ≤ 1000000; decide), fun p2 hp2 => ?_⟩
  have T3 := same_new hp2 (.lst ([.bl b0, .bl b1, .bl b2, .bl b3] ++ [.bl b4, .bl b5, .bl b6, .bl b7]))
  have x3 := T3 _ _ (T2 _ _ x1)
  refine ⟨_, rfl, _, rfl, x, _, C, _, b8, rfl, rfl, x3, Z, e8, _, rfl, x, _, C, _, b9, rfl, rfl, x3, Z, e9, _, rfl, x, _, C, _, b10, rfl, rfl, x3, Z, e10, _, rfl, x, _, C, _, b11, rfl, rfl, x3, Z, e11, line4 (by show 4 ≤ 1000000; decide), fun p3 hp3 => ?_⟩
  have T4 := same_new hp3 (.lst [.bl b8, .bl b9, .bl b10, .bl b11])
  refine ⟨p2, p3, _, _, rfl, rfl, T4 _ _ upd_same, upd_same, line4 (by show 12 ≤ 1000000; decide), fun p4 hp4 => ?_⟩
  have T5 := same_new hp4 (.lst (([.bl b0, .bl b1, .bl b2, .bl b3] ++ [.bl b4, .bl b5, .bl b6, .bl b7]) ++ [.bl b8, .bl b9, .bl b10, .bl b11]))
  refine ⟨line4 (by show 10 ≤ 1000000; decide), fun p5 hp5 => ?_⟩
  have T6 := same_new hp5 (.lst ((kNames.take 10).map V.str))
  refine ⟨_, rfl, line4 (by show 2 ≤ 1000000; decide), fun p6 hp6 => ?_⟩
  have T7 := same_new hp6 (.lst [.str "NoMill", .str "+"])
  refine ⟨p5, p6, _, _, rfl, rfl, T7 _ _ upd_same, upd_same, line4 (by show 12 ≤ 1000000; decide), fun p7 hp7 => ?_⟩
  have T8 := same_new hp7 (.lst ((kNames.take 10).map V.str ++ [.str "NoMill", .str "+"]))
  have x8 := T8 _ _ (T7 _ _ (T6 _ _ (T5 _ _ (T4 _ _ x3))))
  have all := T1.trans (T2.trans (T3.trans (T4.trans (T5.trans (T6.trans (T7.trans T8))))))
  have gB := T8 _ _ (T7 _ _ (T6 _ _ (upd_same (H := _) (a := p4) (o := .lst (([.bl b0, .bl b1, .bl b2, .bl b3] ++ [.bl b4, .bl b5, .bl b6, .bl b7]) ++ [.bl b8, .bl b9, .bl b10, .bl b11])))))
  refine ⟨rfl, 12, .ref C, rfl, by decide, by decide, ?_⟩
  exact kind_loop hx x8 gB upd_same all q
end
end K3
end
section
set_option Elab.async false
set_option linter.all false
set_option maxRecDepth 100000
set_option maxHeartbeats 1000000
namespace K3
open PySem PySem.Spec PyProof.Rows L2
def wt : List Nat → Tb
  | [] => Tb.one
  | c :: r => (ltTb c).mul (wt r)
def isLR (c : Nat) : Prop := c = 108 ∨ c = 114
structure Plain (t : Tb) : Prop where
  a : 0 ≤ t.a
  b : 0 ≤ t.b
  c : 0 ≤ t.c
  d : 0 ≤ t.d
  w : t.a * t.d - t.b * t.c = 1
def Tb.sum (t : Tb) : Int := t.a + t.b + t.c + t.d
end K3
end
section
set_option Elab.async false
set_option linter.all false
set_option maxRecDepth 100000
set_option maxHeartbeats 4000000
namespace K3
open PySem PySem.Spec PyProof.Rows L2
section
variable {P : Program} {w : World} {K : PySem.W.Frag} {mg : Str → Option Value} {base : Heap}
def plainB (t : Tb) : Bool := decide (0 ≤ t.a ∧ 0 ≤ t.b ∧ 0 ≤ t.c ∧ 0 ≤ t.d) && decide (t.worth = 1)
def spPlain : Sp := fun vs H Q _ => ∃ v t n, vs = [v] ∧ T4o H v t ∧ Bd n t ∧ n ≤ 1048576 ∧ ∀ H', Same H H' → Q (.bl (plainB t)) H'
def lrB (c : Nat) : Bool := c == 108 || c == 114
def wordB (z : Str) : Bool := decide (z.length ≤ 400) && z.cps.toList.all lrB
abbrev lkv (l1 l2 : Addr) : List (Key × V) := [(.inr "l", .ref l1), (.inr "r", .ref l2)]
theorem el : ("l" : Str) = ⟨#[108]⟩ := by decide +kernel
theorem er : ("r" : Str) = ⟨#[114]⟩ := by decide +kernel
def asc (z : Str) : Prop := z.cps.all (· < 128) = true ∧ z.length ≤ 100000
def spIsWord : Sp := fun vs H Q _ => ∃ z, vs = [.str z] ∧ asc z ∧ ∀ H', Same H H' → Q (.bl (wordB z)) H'
end
end K3
end
section
set_option Elab.async false
set_option linter.all false
set_option maxRecDepth 100000
set_option maxHeartbeats 4000000
namespace K3
open PySem PySem.Spec PyProof.Rows L2
section
variable {P : Program} {w : World} {K : PySem.W.Frag} {mg : Str → Option Value} {base : Heap}
def spTabOf (K : PySem.W.Frag) (C : Addr) : Sp := fun vs H Q E => ∃ z, vs = [.str z] ∧ asc z ∧ (wordB z = true → ∀ r H', Same H H' → T4 K H' r (wt z.cps.toList) → Q r H') ∧ (wordB z = false → ∀ H', Same H H' → E (.ref C) none H')
def txt (cs : List Nat) : Str := ⟨cs.toArray⟩
abbrev ones (cs : List Nat) : List Str := cs.map fun c => ⟨#[c]⟩
theorem fold_cps : ∀ (r : List Str) (a : Array Nat), (r.foldl (fun acc p => acc ++ ("" : Str).cps ++ p.cps) a).toList = a.toList ++ (r.map (·.cps.toList)).flatten
  | [], a => by simp
  | x :: r, a => by
    have z : ("" : Str).cps = #[] := rfl
    rw [List.foldl_cons, fold_cps r, z]
    simp
theorem join_cps (zs : List Str) : (Txt.join "" zs).cps.toList = (zs.map (·.cps.toList)).flatten := by
  cases zs with
  | nil => rfl
  | cons x r => exact fold_cps r x.cps
theorem str_ext {x y : Str} (h : x.cps.toList = y.cps.toList) : x = y := by
  obtain ⟨⟨x⟩⟩ := x; obtain ⟨⟨y⟩⟩ := y
  simp only at h; subst h; rfl
def spWW : Sp := fun vs H Q _ => ∃ v cs m, vs = [v, .int ((m : Nat) : Int)] ∧ m ≤ 10000 ∧ (∀ c ∈ cs, isLR c) ∧ T4o H v (wt cs) ∧ (cs.length ≤ m → ∀ H', Same H H' → Q (.str (txt cs)) H') ∧ (m < cs.length → ∀ H', Same H H' → Q .non H')
end
end K3
end
section
set_option Elab.async false
set_option linter.all false
set_option maxRecDepth 100000
set_option maxHeartbeats 4000000
namespace K3
open PySem PySem.Spec PyProof.Rows L2
section
variable {P : Program} {w : World} {K : PySem.W.Frag} {mg : Str → Option Value} {base : Heap}
def spWof (C1 C2 : Addr) : Sp := fun vs H Q E => ∃ v t n, vs = [v] ∧ T4o H v t ∧ Bd n t ∧ n ≤ 1048576 ∧
  (∀ cs, (∀ c ∈ cs, isLR c) → wt cs = t → cs.length ≤ 400 → ∀ H', Same H H' → Q (.str (txt cs)) H') ∧ (∀ cs, (∀ c ∈ cs, isLR c) → wt cs = t → 400 < cs.length → ∀ H', Same H H' → E (.ref C2) none H') ∧ (¬ Plain t → ∀ H', Same H H' → E (.ref C1) none H')
structure Err1 (K : PySem.W.Frag) (cl : List Addr) (qe C : Addr) (j : Nat) : Prop where
  kx : PySem.W.excIn K C bmVE "ValueError.__new__" = true
  sub : subIn K C qe = true
  ex : ExcK K C
  o0 : PySem.W.kitOne K (.ref C) (.ref (cl.getD 0 0)) = some (decide (j = 0))
  o1 : PySem.W.kitOne K (.ref C) (.ref (cl.getD 1 0)) = some (decide (j = 1))
  o2 : PySem.W.kitOne K (.ref C) (.ref (cl.getD 2 0)) = some (decide (j = 2))
  o3 : PySem.W.kitOne K (.ref C) (.ref (cl.getD 3 0)) = some (decide (j = 3))
  o4 : PySem.W.kitOne K (.ref C) (.ref (cl.getD 4 0)) = some (decide (j = 4))
  o5 : PySem.W.kitOne K (.ref C) (.ref (cl.getD 5 0)) = some (decide (j = 5))
  o6 : PySem.W.kitOne K (.ref C) (.ref (cl.getD 6 0)) = some (decide (j = 6))
  o7 : PySem.W.kitOne K (.ref C) (.ref (cl.getD 7 0)) = some (decide (j = 7))
  o8 : PySem.W.kitOne K (.ref C) (.ref (cl.getD 8 0)) = some (decide (j = 8))
  o9 : PySem.W.kitOne K (.ref C) (.ref (cl.getD 9 0)) = some (decide (j = 9))
  o10 : PySem.W.kitOne K (.ref C) (.ref (cl.getD 10 0)) = some (decide (j = 10))
  o11 : PySem.W.kitOne K (.ref C) (.type "ValueError") = some true
def spAsk0 (K : PySem.W.Frag) : Sp := fun vs H Q _ => ∃ z, vs = [.int 0, .str z] ∧ asc z ∧ ∀ l r (x : Str) H', Same H H' → H' l = some (.tup [r, .str x]) → ((wordB z = true ∧ T4 K H' r (wt z.cps.toList) ∧ x = "") ∨ (wordB z = false ∧ r = .non ∧ x = "NoWord+")) → Q (.ref l) H'
def spAsk1 : Sp := fun vs H Q _ => ∃ v t n, vs = [.int 1, v] ∧ T4o H v t ∧ Bd n t ∧ n ≤ 1048576 ∧ ∀ l r (x : Str) H', Same H H' → H' l = some (.tup [r, .str x]) → ((∃ cs, (∀ c ∈ cs, isLR c) ∧ wt cs = t ∧ cs.length ≤ 400 ∧ r = .str (txt cs) ∧ x = "") ∨ (∃ cs, (∀ c ∈ cs, isLR c) ∧ wt cs = t ∧ 400 < cs.length ∧ r = .non ∧ x = "TooLong+") ∨ (¬ Plain t ∧ r = .non ∧ x = "NoPlain+")) → Q (.ref l) H'
end
end K3
end
section
set_option Elab.async false
set_option linter.all false
set_option maxRecDepth 100000
set_option maxHeartbeats 4000000
namespace K3
open PySem PySem.Spec PyProof.Rows L2
section
variable {P : Program} {w : World} {K : PySem.W.Frag} {mg : Str → Option Value} {base : Heap}
def LRs (z : Str) : Prop := ∀ c ∈ z.cps.toList, isLR c
def As (z : Str) : Prop := ∀ c ∈ z.cps.toList, c < 128
theorem len_cps (z : Str) : z.length = z.cps.toList.length := rfl
theorem mul_mem {z : Str} {n : Int} {c : Nat} (h : c ∈ (Txt.mul z n).cps.toList) : c ∈ z.cps.toList := by
  rw [L2.mul_list] at h
  obtain ⟨l, hl, hc⟩ := List.mem_flatten.mp h
  rw [List.eq_of_mem_replicate hl] at hc
  exact hc
theorem cut_mem {α : Type} {l : List α} {lo hi : Option Int} {c : α} (h : c ∈ cutN l lo hi) : c ∈ l := List.mem_of_mem_drop (List.mem_of_mem_take h)
theorem slice_mem {z : Str} {lo hi : Option Int} {c : Nat} (h : c ∈ (Txt.slice z lo hi).cps.toList) : c ∈ z.cps.toList := by
  rw [slice_list] at h; exact cut_mem h
theorem app_list (x y : Str) : (x ++ y).cps.toList = x.cps.toList ++ y.cps.toList := by
  show (x.cps ++ y.cps).toList = _
  rw [Array.toList_append]
theorem app_len (x y : Str) : (x ++ y).length = x.length + y.length := by rw [len_cps, app_list, List.length_append]; rfl
theorem mul_len (z : Str) (n : Int) : (Txt.mul z n).length = n.toNat * z.length := by
  rw [len_cps, L2.mul_list, List.length_flatten]
  simp [len_cps]
def spPiece : Sp := fun vs H Q _ => ∃ p m, vs = [.ref p, .int m] ∧ 1 ≤ m ∧ m ≤ 1000 ∧ Ds H p ∧ ∀ z H', Dr p H H' → LRs z → 1 ≤ z.length → (z.length : Int) ≤ m → Q (.str z) H'
end
end K3
end
section
set_option Elab.async false
set_option linter.all false
set_option maxRecDepth 100000
set_option maxHeartbeats 4000000
namespace K3
open PySem PySem.Spec PyProof.Rows L2
section
variable {P : Program} {w : World} {K : PySem.W.Frag} {mg : Str → Option Value} {base : Heap}
theorem As.app {x y : Str} (h : As x) (k : As y) : As (x ++ y) := fun c hc => by
  rw [app_list] at hc
  rcases List.mem_append.mp hc with z | z
  · exact h c z
  · exact k c z
theorem As.slice {x : Str} {lo hi : Option Int} (h : As x) : As (Txt.slice x lo hi) := fun c hc => h c (slice_mem hc)
def sg : Str := (" !\"#$&'()*+,-./0123456789:;<=>?@" : Str) ++ ("ABCDEFGHIJKLMNOPQRSTUVWXYZ[\\]^_`abcdefghijklmnopqrstuvwxyz{|}~\n" : Str)
theorem sg_len : sg.length = 95 := by decide +kernel
theorem sg_as : ∀ c ∈ sg.cps.toList, c < 128 := by decide +kernel
theorem at_of {l : List Nat} {r : Int} (h0 : 0 ≤ r) (h1 : r < l.length) : ∃ c, atI l r = some c ∧ c ∈ l := by
  have hk : r.toNat < l.length := by omega
  have ek : r = ((r.toNat : Nat) : Int) := by omega
  have e := atI_nat (List.getElem?_eq_getElem hk)
  rw [← ek] at e
  exact ⟨_, e, List.getElem_mem hk⟩
theorem d3 {r : Int} (h0 : 0 ≤ r) (h1 : r < 3) : ∃ c, ("- 0" : Str).cps[r.toNat]? = some c ∧ c < 128 := by
  have : r = 0 ∨ r = 1 ∨ r = 2 := by omega
  rcases this with rfl | rfl | rfl
  · exact ⟨45, by decide +kernel, by decide⟩
  · exact ⟨32, by decide +kernel, by decide⟩
  · exact ⟨48, by decide +kernel, by decide⟩
def spBent : Sp := fun vs H Q _ => ∃ z p, vs = [.str z, .ref p] ∧ As z ∧ z.length ≤ 20000 ∧ Ds H p ∧ ∀ y H', Dr p H H' → As y → y.length ≤ 2 * z.length + 1 → Q (.str y) H'
theorem sc_bent : FnScope ["text", "draws", "signs", "way", "sign", "at"] ["text", "draws"] (defScope (top 28)) := ⟨rfl, rfl, rfl, by decide +kernel, rfl, by decide +kernel, by decide +kernel⟩
theorem ok_bent {dd d : DD} (D_draw : Def K mg "_law_draw" (top 27) ["draws", "many"] dd) (G_draw : FnOk P w K mg base CX0 1 dd.f dd.fd ["draws", "many"] spDraw) (D : Def K mg "_law_bent" (top 28) ["text", "draws"] d) (b_len : mg "len" = none) : FnOk P w K mg base CX0 2 d.f d.fd ["text", "draws"] spBent := by
  refine D.fn.ok sc_bent (fun vs H Q E h => ?_) (fun cdv A outer s H vs Q E hr h => ?_)
  · obtain ⟨z, p, rfl, _⟩ := h
    rfl
  obtain ⟨z, p, rfl, az, lz, hp, q⟩ := h
  have hc := hr.calm
  have nd := sc_bent.nd
  refine ⟨_, (@pss_cons _ _ _ _ _ (@ps_set _ _ (2) _ _ _ _ nd rfl (Or.inl rfl) (@pe_str _ _ _ _) (by rfl) (by first | exact .inl rfl | exact .inr rfl | assumption)) (@pss_cons _ _ _ _ _ (@ps_set _ _ (2) _ _ _ _ nd rfl (Or.inl rfl) (@pe_op _ _ _ _ _ _ _ _ op_add_str (pv 2) (@pe_str _ _ _ _)) (by rfl) (by first | exact .inl rfl | exact .inr rfl | assumption)) (@pss_cons _ _ _ _ _ (@ps_set _ _ (3) _ _ _ _ nd rfl (Or.inl rfl) (@pe_call _ _ _ _ _ _ _ _ _ _ _ _ _ _ _ _ (G_draw.mono (by decide)) hr rfl D_draw.m D_draw.fn.kp D_draw.b .nil pass0 (@pa_cons _ _ _ _ _ (pv 1) (@pa_cons _ _ _ _ _ (@pe_int _ _ _ _) (@pa_nil _) st_c) st_n) (by decide) (by rfl) (by rfl)) (by rfl) (by first | exact .inl rfl | exact .inr rfl | assumption)) (@pss_cons _ _ _ _ _ (@ps_set _ _ (4) _ _ _ _ nd rfl (Or.inl rfl) (@pe_ix _ _ _ _ _ _ _ ix_list (@pe_lst _ _ _ _ (@pa_cons _ _ _ _ _ (@pe_ix _ _ _ _ _ _ _ ix_str (pv 2) (@pe_call _ _ _ _ _ _ _ _ _ _ _ _ _ _ _ _ (G_draw.mono (by decide)) hr rfl D_draw.m D_draw.fn.kp D_draw.b .nil pass0 (@pa_cons _ _ _ _ _ (pv 1) (@pa_cons _ _ _ _ _ (@pe_callB _ _ _ _ _ _ _ _ _ call_len_str rfl b_len bt_len (@pa_cons _ _ _ _ _ (pv 2) (@pa_nil _) st_n) (by decide) (by decide) (by rfl) (by rfl)) (@pa_nil _) st_f) st_n) (by decide) (by rfl) (by rfl)) (fun _ _ => rfl)) (@pa_cons _ _ _ _ _ (@pe_item_str _ _ _ _ _ _ (@pe_str _ _ _ _) (@pe_call _ _ _ _ _ _ _ _ _ _ _ _ _ _ _ _ (G_draw.mono (by decide)) hr rfl D_draw.m D_draw.fn.kp D_draw.b .nil pass0 (@pa_cons _ _ _ _ _ (pv 1) (@pa_cons _ _ _ _ _ (@pe_int _ _ _ _) (@pa_nil _) st_c) st_n) (by decide) (by rfl) (by rfl)) (fun _ _ => rfl)) (@pa_nil _) (by rfl)) (by rfl))) (@pe_call _ _ _ _ _ _ _ _ _ _ _ _ _ _ _ _ (G_draw.mono (by decide)) hr rfl D_draw.m D_draw.fn.kp D_draw.b .nil pass0 (@pa_cons _ _ _ _ _ (pv 1) (@pa_cons _ _ _ _ _ (@pe_int _ _ _ _) (@pa_nil _) st_c) st_n) (by decide) (by rfl) (by rfl)) (fun _ _ => rfl)) (by rfl) (by first | exact .inl rfl | exact .inr rfl | assumption)) (@pss_cons _ _ _ _ _ (@ps_set _ _ (5) _ _ _ _ nd rfl (Or.inl rfl) (@pe_call _ _ _ _ _ _ _ _ _ _ _ _ _ _ _ _ (G_draw.mono (by decide)) hr rfl D_draw.m D_draw.fn.kp D_draw.b .nil pass0 (@pa_cons _ _ _ _ _ (pv 1) (@pa_cons _ _ _ _ _ (@pe_op _ _ _ _ _ _ _ _ op_add (@pe_callB _ _ _ _ _ _ _ _ _ call_len_str rfl b_len bt_len (@pa_cons _ _ _ _ _ (pv 0) (@pa_nil _) st_n) (by decide) (by decide) (by rfl) (by rfl)) (@pe_int _ _ _ _)) (@pa_nil _) (by rfl)) st_n) (by decide) (by rfl) (by rfl)) (by rfl) (by first | exact .inl rfl | exact .inr rfl | assumption)) (@pss_cons _ _ _ _ _ (@ps_if _ _ _ _ _ _ _ _ (@pt_cmpR _ _ _ _ _ _ _ _ op_lt (pv 3) (@pe_int _ _ _ _) (nomark _)) (@pss_one _ _ _ (@ps_ret _ _ _ _ (@pe_op _ _ _ _ _ _ _ _ op_add_str (@pe_op _ _ _ _ _ _ _ _ op_add_str (@pe_slice _ _ _ _ _ _ _ _ _ _ sl_str (pv 0) (@po_none _) (@po_some _ _ _ (pv 5))) (pv 4)) (@pe_slice _ _ _ _ _ _ _ _ _ _ sl_str (pv 0) (@po_some _ _ _ (@pe_op _ _ _ _ _ _ _ _ op_add (pv 5) (pv 3))) (@po_none _))))) (@pss_nil _)) (@pss_cons _ _ _ _ _ (@ps_if _ _ _ _ _ _ _ _ (@pt_cmpR _ _ _ _ _ _ _ _ op_eq (pv 3) (@pe_int _ _ _ _) (nomark _)) (@pss_one _ _ _ (@ps_ret _ _ _ _ (@pe_op _ _ _ _ _ _ _ _ op_add_str (@pe_slice _ _ _ _ _ _ _ _ _ _ sl_str (pv 0) (@po_none _) (@po_some _ _ _ (pv 5))) (@pe_slice _ _ _ _ _ _ _ _ _ _ sl_str (pv 0) (@po_some _ _ _ (@pe_op _ _ _ _ _ _ _ _ op_add (pv 5) (@pe_int _ _ _ _))) (@po_none _))))) (@pss_nil _)) (@pss_one _ _ _ (@ps_ret _ _ _ _ (@pe_op _ _ _ _ _ _ _ _ op_add_str (@pe_slice _ _ _ _ _ _ _ _ _ _ sl_str (pv 0) (@po_none _) (@po_some _ _ _ (@pe_op _ _ _ _ _ _ _ _ op_add (pv 5) (@pe_int _ _ _ _)))) (@pe_slice _ _ _ _ _ _ _ _ _ _ sl_str (pv 0) (@po_some _ _ _ (pv 5)) (@po_none _)))))))))))), ?_⟩
  have lsg : sg.length ≤ sizeLine := line4 (by rw [sg_len]; decide)
  have lzz : z.length ≤ sizeLine := line4 (by omega)
  have sl : ∀ lo hi, (Txt.slice z lo hi).length ≤ z.length := fun lo hi => Txt.slice_le z lo hi
  refine ⟨_, rfl, _, _, rfl, rfl, (by rw [← app_len]; exact lsg), ?_⟩
  refine ⟨_, rfl, p, 4, rfl, hp, by decide, by decide, fun way H0 w0 w1 dr0 => ?_⟩
  refine ⟨_, rfl, _, rfl, _, rfl, sg, rfl, lsg, p, _, rfl, dr0.ds, (by rw [sg_len]; decide), (by rw [sg_len]; decide), fun r1 H1 a0 a1 dr1 => ?_⟩
  obtain ⟨c1, ec1, lc1⟩ := at_of (l := sg.cps.toList) a0 a1
  refine ⟨sg, r1, c1, rfl, rfl, lsg, ec1, ?_⟩
  refine ⟨_, rfl, p, 3, rfl, dr1.ds, by decide, by decide, fun r2 H2 b0 b1 dr2 => ?_⟩
  obtain ⟨c2, ec2, lc2⟩ := d3 b0 b1
  refine ⟨_, r2, c2, rfl, rfl, b0, by omega, (by have : ("- 0" : Str).length = 3 := by decide +kernel
                                                 rw [this]; omega), ec2, ?_⟩
  refine ⟨line4 (by show 2 ≤ 1000000; decide), fun L nL => ?_⟩
  have DN := Dr.new dr2.ds nL (.lst [.str ⟨#[c1]⟩, .str ⟨#[c2]⟩])
  refine ⟨_, rfl, p, 2, rfl, DN.ds, by decide, by decide, fun r3 H3 f0 f1 dr3 => ?_⟩
  have gL := hid_le p _ _ _ (dr3.same _ _ (hid_new dr2.ds nL (.lst [.str ⟨#[c1]⟩, .str ⟨#[c2]⟩])))
  obtain ⟨sign, es, as, ls⟩ : ∃ sign, atI [V.str ⟨#[c1]⟩, .str ⟨#[c2]⟩] r3 = some (.str sign) ∧ As sign ∧ sign.length = 1 := by
    have : r3 = 0 ∨ r3 = 1 := by omega
    rcases this with rfl | rfl
    · refine ⟨_, rfl, fun c hc => ?_, rfl⟩
      have e : c = c1 := by simpa using hc
      rw [e]; exact sg_as c1 lc1
    · refine ⟨_, rfl, fun c hc => ?_, rfl⟩
      have e : c = c2 := by simpa using hc
      rw [e]; exact lc2
  refine ⟨L, _, _, _, rfl, rfl, SqL.of gL, es, ?_⟩
  have D3 := dr0.trans (dr1.trans (dr2.trans (DN.trans dr3)))
  refine ⟨_, rfl, _, rfl, z, rfl, lzz, _, _, rfl, rfl, p, _, rfl, D3.ds, by omega, by omega, fun at_ H4 t0 t1 dr4 => ?_⟩
  have D4 := D3.trans dr4
  have big : ∀ k : Nat, k ≤ 500000 → k ≤ sizeLine := fun k hk => line4 (by omega)
  refine ⟨_, rfl, _, _, rfl, rfl, _, rfl, ite2 (fun h1 => ?_) (fun h1 => ?_)⟩
  · refine ⟨_, rfl, _, rfl, _, rfl, z, rfl, lzz, _, rfl, _, _, rfl, rfl, big _ (by have := sl none (some at_); omega), ?_⟩
    refine ⟨_, rfl, _, rfl, _, rfl, _, _, rfl, rfl, _, rfl, z, rfl, lzz, _, _, rfl, rfl, big _ (by have := sl none (some at_); have := sl (some (at_ + way)) none; rw [app_len]; omega), ?_⟩
    refine q _ _ D4 ((az.slice.app as).app az.slice) ?_
    have := sl none (some at_); have := sl (some (at_ + way)) none
    rw [app_len, app_len]; omega
  refine ⟨_, rfl, rfl, _, rfl, ite2 (fun h2 => ?_) (fun h2 => ?_)⟩
  · refine ⟨_, rfl, _, rfl, _, rfl, z, rfl, lzz, ?_⟩
    refine ⟨_, rfl, _, rfl, _, _, rfl, rfl, _, rfl, z, rfl, lzz, _, _, rfl, rfl, big _ (by have := sl none (some at_); have := sl (some (at_ + 1)) none; omega), ?_⟩
    refine q _ _ D4 (az.slice.app az.slice) ?_
    have := sl none (some at_); have := sl (some (at_ + 1)) none
    rw [app_len]; omega
  · refine ⟨_, rfl, _, rfl, _, _, rfl, rfl, _, rfl, z, rfl, lzz, ?_⟩
    refine ⟨_, rfl, _, rfl, _, rfl, z, rfl, lzz, _, _, rfl, rfl, big _ (by have := sl none (some (at_ + 1)); have := sl (some at_) none; omega), ?_⟩
    refine q _ _ D4 (az.slice.app az.slice) ?_
    have := sl none (some (at_ + 1)); have := sl (some at_) none
    rw [app_len]; omega
def Tb.ns (t : Tb) : List Int := [t.a, t.b, t.c, t.d]
def spBT : Sp := fun vs H Q _ => ∃ p v t n, vs = [.ref p, v] ∧ Ds H p ∧ T4o (hid p H) v t ∧ Bd n t ∧ ∀ r t' H', Dr p H H' → T4o (hid p H') r t' → Bd (n + 2) t' → Q r H'
end
end K3
end
section
set_option Elab.async false
set_option linter.all false
set_option maxRecDepth 100000
set_option maxHeartbeats 4000000
namespace K3
open PySem PySem.Spec PyProof.Rows L2
section
variable {P : Program} {w : World} {K : PySem.W.Frag} {mg : Str → Option Value} {base : Heap}
theorem sc_lwhole : FnScope ["found"] ["found"] (defScope (top 26)) := ⟨rfl, rfl, rfl, by decide +kernel, rfl, by decide +kernel, by decide +kernel⟩
theorem ok_lwhole {d : DD} (D : Def K mg "_law_whole" (top 26) ["found"] d) (b_int : mg "int" = none) (b_bool : mg "bool" = none) (b_isinstance : mg "isinstance" = none) : FnOk P w K mg base CX0 1 d.f d.fd ["found"] spWhole := by
  refine D.fn.ok sc_lwhole (fun vs H Q E h => ?_) (fun cdv A outer s H vs Q E hr h => ?_)
  · obtain ⟨v, rfl, _⟩ := h
    rfl
  obtain ⟨v, rfl, hk, q⟩ := h
  refine ⟨_, (pss_one (ps_ret (pe_and (pe_callB call_isT rfl b_isinstance bt_isinstance (pa_cons (pv 0) (pa_cons (pe_bltn (v := .ty "int") rfl b_int bt_int rfl) pa_nil))) (pe_one (pe_not (pe_callB call_isT rfl b_isinstance bt_isinstance (pa_cons (pv 0) (pa_cons (pe_bltn (v := .ty "bool") rfl b_bool bt_bool rfl) pa_nil)))))))), ?_⟩
  obtain ⟨t1, y1, e1⟩ := hk.as_int (K := K)
  obtain ⟨t2, y2, e2⟩ := hk.as_bool (K := K)
  refine ⟨v, rfl, v, .ty "int", t1, _, _, rfl, rfl, y1, e1, _, rfl, ?_⟩
  cases hb : isIB v with
  | true =>
    refine iteT ⟨v, rfl, v, .ty "bool", t2, _, _, rfl, rfl, y2, e2, _, rfl, ?_⟩
    have z : (!isB v) = thInt v := by cases v <;> first | rfl | (cases hb)
    rw [z]
    exact q
  | false =>
    refine iteF ?_
    have z : false = thInt v := by cases v <;> first | rfl | (cases hb)
    rw [z]
    exact q
end
end K3
end
section
set_option Elab.async false
set_option linter.all false
set_option maxRecDepth 100000
set_option maxHeartbeats 4000000
namespace K3
open PySem PySem.Spec PyProof.Rows L2
section
variable {P : Program} {w : World} {K : PySem.W.Frag} {mg : Str → Option Value} {base : Heap}
def spNum : Sp := fun vs H Q _ => ∃ p, vs = [.ref p] ∧ Ds H p ∧ ∀ r H', Lt2 660 r → Dr p H H' → Q (.int r) H'
theorem sc_num : FnScope ["draws", "number", "k"] ["draws"] (defScope (top 30)) := ⟨rfl, rfl, rfl, by decide +kernel, rfl, by decide +kernel, by decide +kernel⟩
theorem lt2_int {n : Nat} {x : Int} (h0 : 0 ≤ x) (h : x < 2 ^ n) : Lt2 n x := by
  unfold Lt2
  have e : (x.natAbs : Int) = x := Int.natAbs_of_nonneg h0
  have : (x.natAbs : Int) < ((2 ^ n : Nat) : Int) := by rw [e]; simpa using h
  exact Int.ofNat_lt.mp this
theorem ok_num {dd d : DD} (D_draw : Def K mg "_law_draw" (top 27) ["draws", "many"] dd) (G_draw : FnOk P w K mg base CX0 1 dd.f dd.fd ["draws", "many"] spDraw) (D : Def K mg "_law_number" (top 30) ["draws"] d) (b_range : mg "range" = none) : FnOk P w K mg base CX0 2 d.f d.fd ["draws"] spNum := by
  refine D.fn.ok sc_num (fun vs H Q E h => ?_) (fun cdv A outer s H vs Q E hr h => ?_)
  · obtain ⟨p, rfl, _⟩ := h
    rfl
  obtain ⟨p, rfl, hp, q⟩ := h
  have hc := hr.calm
  have nd := sc_num.nd
  refine ⟨_, (pss_cons (ps_set (i := 1) nd rfl (Or.inl rfl) (pe_call (G_draw.mono (by decide)) hr rfl D_draw.m D_draw.fn.kp D_draw.b .nil pass0 (pa_cons (pv 0) (pa_cons (pe_op op_pow pe_int pe_int) pa_nil) st_n))) (pss_cons (ps_for PassesOwn.never hc (pi_range1 rfl b_range (pa_cons (pe_ix ix_list (pe_lst (pa_cons pe_int (pa_cons pe_int (pa_cons pe_int (pa_cons pe_int (pa_cons pe_int pa_nil st_c) st_c) st_c) st_c) st_c)) (pe_call (G_draw.mono (by decide)) hr rfl D_draw.m D_draw.fn.kp D_draw.b .nil pass0 (pa_cons (pv 0) (pa_cons pe_int pa_nil st_c) st_n)) (fun _ _ => rfl)) pa_nil)) (pg_name (i := 2) nd rfl (Or.inl rfl)) (pss_one (ps_set (i := 1) nd rfl (Or.inl rfl) (pe_op op_add (pe_op op_mul (pv 1) (pe_op op_pow pe_int pe_int)) (pe_call (G_draw.mono (by decide)) hr rfl D_draw.m D_draw.fn.kp D_draw.b .nil pass0 (pa_cons (pv 0) (pa_cons (pe_op op_pow pe_int pe_int) pa_nil) st_n)))))) (pss_one (ps_ret (pe_ix ix_list (pe_lst (pa_cons (pv 1) (pa_cons (pe_op op_sub pe_int (pv 1)) (pa_cons (pe_op op_sub (pe_op op_mod (pv 1) pe_int) pe_int) pa_nil)) st_n)) (pe_call (G_draw.mono (by decide)) hr rfl D_draw.m D_draw.fn.kp D_draw.b .nil pass0 (pa_cons (pv 0) (pa_cons pe_int pa_nil st_c) st_n)) (fun _ _ => rfl)))))), ?_⟩
  refine ⟨_, rfl, _, _, rfl, rfl, ⟨by decide, by decide, by decide⟩, p, _, rfl, hp, by decide, by decide, fun r0 H0 a0 a1 dr0 => ?_⟩
  refine ⟨line4 (by show 5 ≤ 1000000; decide), fun l hl => ?_⟩
  have D1 := Dr.new dr0.ds hl (.lst [.int 0, .int 0, .int 1, .int 5, .int 31])
  refine ⟨_, rfl, p, 5, rfl, D1.ds, by decide, by decide, fun r1 H1 c0 c1 dr1 => ?_⟩
  have gl := dr1.same l _ (hid_new dr0.ds hl _)
  have gl' : H1 l = some (.lst [.int 0, .int 0, .int 1, .int 5, .int 31]) := hid_le p H1 _ _ gl
  have pick : ∃ n : Nat, n ≤ 31 ∧ atI [V.int 0, .int 0, .int 1, .int 5, .int 31] r1 = some (.int n) := by
    have : r1 = 0 ∨ r1 = 1 ∨ r1 = 2 ∨ r1 = 3 ∨ r1 = 4 := by omega
    rcases this with rfl | rfl | rfl | rfl | rfl
    · exact ⟨0, by decide, rfl⟩
    · exact ⟨0, by decide, rfl⟩
    · exact ⟨1, by decide, rfl⟩
    · exact ⟨5, by decide, rfl⟩
    · exact ⟨31, by decide, rfl⟩
  obtain ⟨n, hn, en⟩ := pick
  refine ⟨l, _, _, _, rfl, rfl, SqL.of gl', en, n, rfl, by omega, by omega, ?_⟩
  have DA := dr0.trans (D1.trans dr1)
  refine for_range (lo := 0) (n := n) (fun i σ H' => ∃ (m : Int) (o : Option V), σ = [some (.ref p), some (.int m), o] ∧ 0 ≤ m ∧ m < 2 ^ (20 * (i + 1)) ∧ Dr p H H') ⟨r0, none, rfl, a0, (by have a1' : r0 < 1000000 := a1; show r0 < 1048576; omega), DA⟩ (fun i σ H' hi z => ?_) (fun σ H' z => ?_)
  · obtain ⟨m, o, rfl, m0, m1, dr⟩ := z
    refine ⟨_, rfl, _, _, rfl, rfl, ⟨by decide, by decide, by decide⟩, _, _, rfl, rfl, .inr ⟨by decide, by decide⟩, ?_⟩
    refine ⟨_, rfl, _, _, rfl, rfl, ⟨by decide, by decide, by decide⟩, p, _, rfl, dr.ds, by decide, by decide, fun r H2 e0 e1 dr2 => ?_⟩
    refine ⟨_, _, rfl, rfl, _, _, rfl, ?_, ?_, dr.trans dr2⟩
    · have : (0 : Int) ≤ m * 10 ^ 6 := Int.mul_nonneg m0 (by decide)
      show 0 ≤ m * 10 ^ 6 + r
      omega
    · show m * 10 ^ 6 + r < 2 ^ (20 * (i + 1 + 1))
      have e : 20 * (i + 1 + 1) = 20 * (i + 1) + 20 := by omega
      rw [e, Int.pow_add]
      have k6 : (10 : Int) ^ 6 = 1000000 := by decide
      have k20 : (2 : Int) ^ 20 = 1048576 := by decide
      have e1' : r < 1000000 := e1
      rw [k6, k20]
      generalize (2 : Int) ^ (20 * (i + 1)) = X at m1 ⊢
      omega
  · obtain ⟨m, o, rfl, m0, m1, dr⟩ := z
    have big : Lt2 640 m := (lt2_int m0 m1).mono (by omega)
    refine ⟨_, rfl, _, rfl, _, _, rfl, rfl, _, rfl, _, _, rfl, rfl, (show (0 : Int) < 7 by decide), _, _, rfl, rfl, line4 (by show 3 ≤ 1000000; decide), fun l2 hl2 => ?_⟩
    have D2 := Dr.new dr.ds hl2 (.lst [.int m, .int (0 - m), .int (m % 7 - 3)])
    refine ⟨_, rfl, p, 3, rfl, D2.ds, by decide, by decide, fun r3 H3 f0 f1 dr3 => ?_⟩
    have g2 := hid_le p H3 _ _ (dr3.same l2 _ (hid_new dr.ds hl2 _))
    have fin : ∃ z, atI [V.int m, .int (0 - m), .int (m % 7 - 3)] r3 = some (.int z) ∧ Lt2 660 z := by
      have : r3 = 0 ∨ r3 = 1 ∨ r3 = 2 := by omega
      rcases this with rfl | rfl | rfl
      · exact ⟨m, rfl, big.mono (by decide)⟩
      · refine ⟨0 - m, rfl, ?_⟩
        have : Lt2 640 (0 - m) := by unfold Lt2 at big ⊢; rw [Int.zero_sub, Int.natAbs_neg]; exact big
        exact this.mono (by decide)
      · refine ⟨m % 7 - 3, rfl, ?_⟩
        have : Lt2 3 (m % 7 - 3) := by
          unfold Lt2
          have := Int.emod_nonneg m (show (7 : Int) ≠ 0 by decide)
          have := Int.emod_lt_of_pos m (show (0 : Int) < 7 by decide)
          show (m % 7 - 3).natAbs < 8
          omega
        exact this.mono (by decide)
    obtain ⟨z, ez, bz⟩ := fin
    refine ⟨l2, _, _, _, rfl, rfl, SqL.of g2, ez, ?_⟩
    exact q z H3 bz (dr.trans (D2.trans dr3))
end
end K3
end
section
set_option Elab.async false
set_option linter.all false
set_option maxRecDepth 100000
set_option maxHeartbeats 4000000
namespace K3
open PySem PySem.Spec PyProof.Rows L2
section
variable {P : Program} {w : World} {K : PySem.W.Frag} {mg : Str → Option Value} {base : Heap}
def spThing (n : Nat) : Sp := fun vs H Q _ => ∃ (p : Addr) (d : Int), vs = [.ref p, .int d] ∧ 0 ≤ d ∧ d < n ∧ Ds H p ∧ ∀ r b H', Dr p H H' → Th (hid p H') r b → (∀ x, r = .str x → As x ∧ x.length ≤ 10) → Q r H'
theorem sc_thing : FnScope ["draws", "deep", "kind", "some"] ["draws", "deep"] (defScope (top 32)) := ⟨rfl, rfl, rfl, by decide +kernel, rfl, by decide +kernel, by decide +kernel⟩
theorem thing0 {d : DD} {k : Nat} : FnOk P w K mg base CX0 k d.f d.fd ["draws", "deep"] (spThing 0) := by
  have no : ∀ vs H Q E, ¬ spThing 0 vs H Q E := fun vs H Q E h => by
    obtain ⟨p, d, _, h0, h1, _⟩ := h
    omega
  exact ⟨fun vs H Q E h => absurd h (no vs H Q E), fun A outer s H args us vs Q E _ _ _ _ h => absurd h (no vs H Q E)⟩
theorem ok_thing {dd d : DD} {n : Nat} (D_draw : Def K mg "_law_draw" (top 27) ["draws", "many"] dd) (G_draw : FnOk P w K mg base CX0 1 dd.f dd.fd ["draws", "many"] spDraw) (D : Def K mg "_law_thing" (top 32) ["draws", "deep"] d) (b_range : mg "range" = none) (b_int : mg "int" = none) (b_tuple : mg "tuple" = none)
    (G_thing : FnOk P w K mg base CX0 (n + 1) d.f d.fd ["draws", "deep"] (spThing n)) : FnOk P w K mg base CX0 (n + 2) d.f d.fd ["draws", "deep"] (spThing (n + 1)) := by
  refine D.fn.ok sc_thing (fun vs H Q E h => ?_) (fun cdv A outer s H vs Q E hr h => ?_)
  · obtain ⟨p, d, rfl, _⟩ := h
    rfl
  obtain ⟨p, d, rfl, d0, d1, hp, q⟩ := h
  have hc := hr.calm
  have nd := sc_thing.nd
  refine ⟨_, (@pss_cons _ _ _ _ _ (@ps_set _ _ (2) _ _ _ _ nd rfl (Or.inl rfl) (@pe_call _ _ _ _ _ _ _ _ _ _ _ _ _ _ _ _ (G_draw.mono (by omega)) hr rfl D_draw.m D_draw.fn.kp D_draw.b .nil pass0 (@pa_cons _ _ _ _ _ (pv 0) (@pa_cons _ _ _ _ _ (@pe_int _ _ _ _) (@pa_nil _) st_c) st_n) (by decide) (by rfl) (by rfl)) (by rfl) (by first | exact .inl rfl | exact .inr rfl | assumption)) (@pss_cons _ _ _ _ _ (@ps_if _ _ _ _ _ _ _ _ (@pt_cmpR _ _ _ _ _ _ _ _ op_lt (pv 2) (@pe_int _ _ _ _) (nomark _)) (@pss_one _ _ _ (@ps_ret _ _ _ _ (@pe_ix _ _ _ _ _ _ _ ix_list (@pe_lst _ _ _ _ (@pa_cons _ _ _ _ _ (@pe_op _ _ _ _ _ _ _ _ op_sub (@pe_call _ _ _ _ _ _ _ _ _ _ _ _ _ _ _ _ (G_draw.mono (by omega)) hr rfl D_draw.m D_draw.fn.kp D_draw.b .nil pass0 (@pa_cons _ _ _ _ _ (pv 0) (@pa_cons _ _ _ _ _ (@pe_int _ _ _ _) (@pa_nil _) st_c) st_n) (by decide) (by rfl) (by rfl)) (@pe_int _ _ _ _)) (@pa_cons _ _ _ _ _ (@pe_op _ _ _ _ _ _ _ _ op_sub (@pe_int _ _ _ _) (@pe_op _ _ _ _ _ _ _ _ op_pow (@pe_int _ _ _ _) (@pe_int _ _ _ _))) (@pa_cons _ _ _ _ _ (@pe_call _ _ _ _ _ _ _ _ _ _ _ _ _ _ _ _ (G_draw.mono (by omega)) hr rfl D_draw.m D_draw.fn.kp D_draw.b .nil pass0 (@pa_cons _ _ _ _ _ (pv 0) (@pa_cons _ _ _ _ _ (@pe_op _ _ _ _ _ _ _ _ op_pow (@pe_int _ _ _ _) (@pe_int _ _ _ _)) (@pa_nil _) (by rfl)) st_n) (by decide) (by rfl) (by rfl)) (@pa_cons _ _ _ _ _ (@pe_int _ _ _ _) (@pa_nil _) st_c) st_f) (by rfl)) (by rfl))) (pv 2) (fun _ _ => rfl)))) (@pss_nil _)) (@pss_cons _ _ _ _ _ (@ps_if _ _ _ _ _ _ _ _ (@pt_cmpR _ _ _ _ _ _ _ _ op_lt (pv 2) (@pe_int _ _ _ _) (nomark _)) (@pss_one _ _ _ (@ps_ret _ _ _ _ (@pe_ix _ _ _ _ _ _ _ ix_list (@pe_lst _ _ _ _ (@pa_cons _ _ _ _ _ (@pe_bl _ _ _ _) (@pa_cons _ _ _ _ _ (@pe_bl _ _ _ _) (@pa_cons _ _ _ _ _ (@pe_non _ _ _) (@pa_nil _) st_c) st_c) st_c)) (@pe_op _ _ _ _ _ _ _ _ op_sub (pv 2) (@pe_int _ _ _ _)) (fun _ _ => rfl)))) (@pss_nil _)) (@pss_cons _ _ _ _ _ (@ps_if _ _ _ _ _ _ _ _ (@pt_cmpR _ _ _ _ _ _ _ _ op_lt (pv 2) (@pe_int _ _ _ _) (nomark _)) (@pss_one _ _ _ (@ps_ret _ _ _ _ (@pe_ix _ _ _ _ _ _ _ ix_list (@pe_lst _ _ _ _ (@pa_strs _ _ (["l", "rl", "uV", "", "1,0,0,1", "7", "-"]) rfl)) (@pe_call _ _ _ _ _ _ _ _ _ _ _ _ _ _ _ _ (G_draw.mono (by omega)) hr rfl D_draw.m D_draw.fn.kp D_draw.b .nil pass0 (@pa_cons _ _ _ _ _ (pv 0) (@pa_cons _ _ _ _ _ (@pe_int _ _ _ _) (@pa_nil _) st_c) st_n) (by decide) (by rfl) (by rfl)) (fun _ _ => rfl)))) (@pss_nil _)) (@pss_cons _ _ _ _ _ (@ps_comp _ _ _ _ _ _ _ _ _ _ _ _ _ _ (3) _ _ _ hc (compScope_of (ts := ["k"]) (cap := ["draws", "deep"]) (js := [0, 1]) rfl rfl rfl rfl rfl rfl (by decide +kernel)) (@pi_range1 _ _ _ _ _ _ rfl b_range (@pa_cons _ _ _ _ _ (@pe_op _ _ _ _ _ _ _ _ op_mul (@pe_call _ _ _ _ _ _ _ _ _ _ _ _ _ _ _ _ (G_draw.mono (by omega)) hr rfl D_draw.m D_draw.fn.kp D_draw.b .nil pass0 (@pa_cons _ _ _ _ _ (pv 0) (@pa_cons _ _ _ _ _ (@pe_int _ _ _ _) (@pa_nil _) st_c) st_n) (by decide) (by rfl) (by rfl)) (@pe_callTy _ _ _ _ _ _ _ _ _ call_int1 rfl b_int bt_int (@pa_cons _ _ _ _ _ (@pe_cmpR _ _ _ _ _ _ _ _ op_gt (pv 1) (@pe_int _ _ _ _) (nomark _)) (@pa_nil _) (by rfl)) (by decide) (by decide) (by rfl) (by rfl))) (@pa_nil _) (by rfl)) (by rfl)) (fun _ _ _ _ => @pg_name _ _ (0) _ (show (["k", "draws", "deep"] : List Str).Nodup by decide +kernel) rfl (Or.inl rfl) (.inr rfl)) (fun _ _ _ _ => @pts_nil _) (fun _ _ _ _ => (@pe_call _ _ _ _ _ _ _ _ _ _ _ _ _ _ _ _ G_thing hr rfl D.m D.fn.kp D.b .nil pass0 (@pa_cons _ _ _ _ _ (pv 1) (@pa_cons _ _ _ _ _ (@pe_op _ _ _ _ _ _ _ _ op_sub (pv 2) (@pe_int _ _ _ _)) (@pa_nil _) (by rfl)) st_n) (by decide) (by rfl) (by rfl))) nd rfl (Or.inl rfl) rfl (by intro _; rfl) (by first | exact .inl rfl | exact .inr rfl | assumption)) (@pss_one _ _ _ (@ps_ret _ _ _ _ (@pe_ifExp _ _ _ _ _ _ _ _ (@pt_cmpR _ _ _ _ _ _ _ _ op_eq (pv 2) (@pe_int _ _ _ _) (nomark _)) (pv 3) (@pe_callTy _ _ _ _ _ _ _ _ _ call_tuple_of rfl b_tuple bt_tuple (@pa_cons _ _ _ _ _ (pv 3) (@pa_nil _) st_n) (by decide) (by decide) (by rfl) (by rfl)))))))))), ?_⟩
  refine ⟨_, rfl, p, 12, rfl, hp, by decide, by decide, fun kind H0 k0 k1 dr0 => ?_⟩
  refine ⟨_, rfl, _, _, rfl, rfl, _, rfl, ite2 (fun c1 => ?_) (fun c1 => ?_)⟩
  · have c1' : kind < 4 := of_decide_eq_true c1
    refine ⟨_, rfl, p, 9, rfl, dr0.ds, by decide, by decide, fun r1 H1 a0 a1 dr1 => ?_⟩
    refine ⟨_, _, rfl, rfl, _, _, rfl, rfl, ⟨by decide, by decide, by decide⟩, _, _, rfl, rfl, ?_⟩
    refine ⟨_, rfl, _, _, rfl, rfl, ⟨by decide, by decide, by decide⟩, p, _, rfl, dr1.ds, by decide, by decide, fun r2 H2 b0 b1 dr2 => ?_⟩
    refine ⟨line4 (by show 4 ≤ 1000000; decide), fun l hl => ?_⟩
    have DA := dr0.trans (dr1.trans (dr2.trans (Dr.new dr2.ds hl (.lst [.int (r1 - 2), .int (0 - 10 ^ 39), .int r2, .int 1]))))
    have pick : ∃ i, atI [V.int (r1 - 2), .int (0 - 10 ^ 39), .int r2, .int 1] kind = some (.int i) := by
      have : kind = 0 ∨ kind = 1 ∨ kind = 2 ∨ kind = 3 := by omega
      rcases this with rfl | rfl | rfl | rfl <;> exact ⟨_, rfl⟩
    obtain ⟨i, ei⟩ := pick
    refine ⟨_, rfl, l, _, _, _, rfl, rfl, SqL.of upd_same, ei, ?_⟩
    exact q _ _ _ DA (.int i) fun _ z => nomatch z
  refine ⟨_, rfl, _, _, rfl, rfl, _, rfl, ite2 (fun c2 => ?_) (fun c2 => ?_)⟩
  · have c1' : ¬ kind < 4 := of_decide_eq_false (Bool.eq_false_iff.mpr c1)
    have c2' : kind < 7 := of_decide_eq_true c2
    refine ⟨line4 (by show 3 ≤ 1000000; decide), fun l hl => ?_⟩
    have DA := dr0.trans (Dr.new dr0.ds hl (.lst [.bl true, .bl false, .non]))
    have pick : ∃ v, atI [V.bl true, .bl false, .non] (kind - 4) = some v ∧ ((∃ b, v = .bl b) ∨ v = .non) := by
      have : kind = 4 ∨ kind = 5 ∨ kind = 6 := by omega
      rcases this with rfl | rfl | rfl
      · exact ⟨_, rfl, .inl ⟨_, rfl⟩⟩
      · exact ⟨_, rfl, .inl ⟨_, rfl⟩⟩
      · exact ⟨_, rfl, .inr rfl⟩
    obtain ⟨v, ev, hv⟩ := pick
    refine ⟨_, rfl, _, _, rfl, rfl, l, _, _, _, rfl, rfl, SqL.of upd_same, ev, ?_⟩
    rcases hv with ⟨b, rfl⟩ | rfl
    · exact q _ _ _ DA (.bl b) fun _ z => nomatch z
    · exact q _ _ _ DA .non fun _ z => nomatch z
  refine ⟨_, rfl, _, _, rfl, rfl, _, rfl, ite2 (fun c3 => ?_) (fun c3 => ?_)⟩
  · refine ⟨line4 (by show 7 ≤ 1000000; decide), fun l hl => ?_⟩
    have D1 := Dr.new dr0.ds hl (.lst [.str "l", .str "rl", .str "uV", .str "", .str "1,0,0,1", .str "7", .str "-"])
    refine ⟨_, rfl, p, 7, rfl, D1.ds, by decide, by decide, fun r1 H1 a0 a1 dr1 => ?_⟩
    have gl := hid_le p H1 _ _ (dr1.same l _ (hid_new dr0.ds hl _))
    have pick : ∃ x, atI [V.str "l", .str "rl", .str "uV", .str "", .str "1,0,0,1", .str "7", .str "-"] r1 = some (.str x) ∧ As x ∧ x.length ≤ 10 := by
      have : r1 = 0 ∨ r1 = 1 ∨ r1 = 2 ∨ r1 = 3 ∨ r1 = 4 ∨ r1 = 5 ∨ r1 = 6 := by omega
      rcases this with rfl | rfl | rfl | rfl | rfl | rfl | rfl <;> exact ⟨_, rfl, by unfold As; decide, by decide⟩
    obtain ⟨x, ex, lx⟩ := pick
    refine ⟨l, _, _, _, rfl, rfl, SqL.of gl, ex, ?_⟩
    exact q _ _ _ (dr0.trans (D1.trans dr1)) (.str x) fun _ z => by injection z with z; rw [← z]; exact lx
  refine ⟨_, rfl, p, 6, rfl, dr0.ds, by decide, by decide, fun r1 H1 a0 a1 dr1 => ?_⟩
  refine ⟨_, rfl, _, _, rfl, rfl, .inr ⟨_, rfl, _, _, rfl, rfl, .inl ⟨by omega, by omega⟩, ?_⟩⟩
  have jb : ∀ b : Bool, -(2 ^ 62) ≤ r1 * (if b = true then 1 else 0) ∧ r1 * (if b = true then 1 else 0) < 2 ^ 62 ∧ (r1 * (if b = true then 1 else 0)).toNat ≤ 6 := fun b => by
    cases b
    · rw [if_neg (by decide), Int.mul_zero]; exact ⟨by decide, by decide, by decide⟩
    · rw [if_pos rfl, Int.mul_one]; omega
  refine ⟨_, rfl, (jb _).1, (jb _).2.1, ?_⟩
  have dpos : ∀ i : Nat, i < (r1 * (if decide (d > 0) = true then 1 else 0)).toNat → 0 < d := fun i hi => by
    by_cases hd : d > 0
    · exact hd
    · rw [decide_eq_false hd, if_neg (by decide), Int.mul_zero] at hi
      exact absurd hi (by omega)
  have DA := dr0.trans dr1
  refine compR (lo := 0) (n := (r1 * (if decide (d > 0) = true then 1 else 0)).toNat) (fun i ys H' => Dr p H H' ∧ ys.length = i ∧ ∀ y ∈ ys, Kn (hid p H') y) ⟨DA, rfl, fun y hy => absurd hy (by simp)⟩ (fun i ys H' hi z => by rw [z.2.1]; exact Nat.le_refl _) (line4 (by have := (jb (decide (d > 0))).2.2; omega)) (fun i ys H' hi z => ?_) (fun ys H' z l hl => ?_)
  · obtain ⟨z1, z2, z3⟩ := z
    have hd := dpos i hi
    refine ⟨_, rfl, _, rfl, _, _, rfl, rfl, p, d - 1, rfl, by omega, by omega, z1.ds, fun r b H2 dr2 th2 _ => Nx.mk hi ⟨z1.trans dr2, ?_, fun y hy => ?_⟩⟩
    · rw [List.length_append, z2]; rfl
    · rcases List.mem_append.mp hy with y1 | y1
      · exact (z3 y y1).mono dr2.same
      · have e : y = r := by simpa using y1
        subst e
        exact th2.kn
  · obtain ⟨z1, z2, z3⟩ := z
    have D2 := Dr.new z1.ds hl (.lst ys)
    refine ⟨_, rfl, rfl, _, rfl, ite2 (fun c4 => ?_) (fun c4 => ?_)⟩
    · refine ⟨_, rfl, ?_⟩
      exact q _ _ _ (z1.trans D2) (.lst (hid_new z1.ds hl _)) fun _ z => nomatch z
    · refine ⟨_, rfl, l, ys, rfl, .inl ⟨SqL.of upd_same, fun l2 hl2 => ?_⟩⟩
      have D3 := Dr.new D2.ds hl2 (.tup ys)
      exact q _ _ _ (z1.trans (D2.trans D3)) (.tup (hid_new D2.ds hl2 _) fun x hx => ((z3 x hx).mono D2.same).mono D3.same) fun _ z => nomatch z
end
end K3
end
section
set_option Elab.async false
set_option linter.all false
set_option maxRecDepth 100000
set_option maxHeartbeats 4000000
namespace K3
open PySem PySem.Spec PyProof.Rows L2
open PySem.NumText (AllDigits digitsVal)
theorem txt_cps (x : Str) : txt x.cps.toList = x := str_ext rfl
theorem slice_take (x : List Nat) (e : Nat) : Txt.slice (txt x) none (some (e : Int)) = txt (x.take e) := by
  apply str_ext
  rw [slice_list]
  show cutN x none (some (e : Int)) = x.take e
  unfold cutN
  rw [HT.sIx_nat, HT.sIx_none, List.drop_zero, Nat.sub_zero]
  by_cases h : e ≤ x.length
  · rw [Nat.min_eq_left h]
  · rw [Nat.min_eq_right (by omega), List.take_of_length_le (Nat.le_refl _), List.take_of_length_le (by omega)]
theorem slice_from (x : List Nat) (a : Nat) : Txt.slice (txt x) (some (a : Int)) none = txt (x.drop a) := by
  apply str_ext
  rw [slice_list]
  show cutN x (some (a : Int)) none = x.drop a
  unfold cutN
  rw [HT.sIx_nat, HT.sIx_none]
  by_cases h : a ≤ x.length
  · rw [Nat.min_eq_left h, List.take_of_length_le (by rw [List.length_drop]; omega)]
  · rw [Nat.min_eq_right (by omega), List.drop_of_length_le (Nat.le_refl _), List.drop_of_length_le (by omega), List.take_nil]
theorem join_txts (xs : List (List Nat)) : Txt.join "" (xs.map txt) = txt xs.flatten := by
  apply str_ext
  rw [join_cps, List.map_map]
  show (xs.map fun x => (txt x).cps.toList).flatten = xs.flatten
  congr 1
  exact List.map_id' xs
def dec (n : Nat) : List Nat := (Nat.toDigits 10 n).map Char.toNat
def pd : Nat → Nat → List Nat
  | 0, _ => []
  | k + 1, r => pd k (r / 10) ++ [48 + r % 10]
theorem dig_nat : ∀ d : Nat, d < 10 → (Nat.digitChar d).toNat = 48 + d := by decide
theorem dec_lt {d : Nat} (h : d < 10) : dec d = [48 + d] := by
  unfold dec
  rw [Nat.toDigits_of_lt_base h]
  show [(Nat.digitChar d).toNat] = _
  rw [dig_nat d h]
theorem dec_snoc {q d : Nat} (hq : 0 < q) (hd : d < 10) : dec (10 * q + d) = dec q ++ [48 + d] := by
  rw [← dec_lt hd]
  unfold dec
  rw [← List.map_append, Nat.toDigits_append_toDigits (by decide) hq hd]
theorem dec_ne (n : Nat) : dec n ≠ [] := by
  by_cases h : n < 10
  · rw [dec_lt h]; exact List.cons_ne_nil _ _
  · have := dec_snoc (q := n / 10) (d := n % 10) (by omega) (Nat.mod_lt _ (by decide))
    rw [Nat.div_add_mod] at this
    rw [this]; exact List.append_ne_nil_of_right_ne_nil _ (List.cons_ne_nil _ _)
theorem dec_dig (n : Nat) : AllDigits (dec n) := by
  induction n using Nat.strongRecOn with
  | _ n ih =>
    by_cases h : n < 10
    · rw [dec_lt h]
      intro c hc
      rw [List.mem_singleton] at hc
      subst hc
      exact ⟨by omega, by omega⟩
    · have := dec_snoc (q := n / 10) (d := n % 10) (by omega) (Nat.mod_lt _ (by decide))
      rw [Nat.div_add_mod] at this
      rw [this]
      intro c hc
      rcases List.mem_append.mp hc with h1 | h1
      · exact ih (n / 10) (by omega) c h1
      · rw [List.mem_singleton] at h1
        subst h1
        have := Nat.mod_lt n (show 10 > 0 by decide)
        exact ⟨by omega, by omega⟩
theorem dec_pd (q : Nat) (hq : 0 < q) : ∀ (k r : Nat), r < 10 ^ k → dec (q * 10 ^ k + r) = dec q ++ pd k r
  | 0, r, h => by
    have : r = 0 := by simpa using h
    subst this
    rw [Nat.pow_zero, Nat.mul_one, Nat.add_zero]
    show _ = dec q ++ []
    rw [List.append_nil]
  | k + 1, r, h => by
    have hr : r / 10 < 10 ^ k := by rw [Nat.pow_succ] at h; exact Nat.div_lt_of_lt_mul (by rw [Nat.mul_comm]; exact h)
    have e : q * 10 ^ (k + 1) + r = 10 * (q * 10 ^ k + r / 10) + r % 10 := by
      have := Nat.div_add_mod r 10
      rw [Nat.pow_succ, Nat.mul_add, ← Nat.mul_assoc, Nat.mul_comm (q * 10 ^ k) 10]
      omega
    have hp : 0 < 10 ^ k := Nat.pow_pos (by decide)
    have hpos : 0 < q * 10 ^ k + r / 10 := by have := Nat.mul_pos hq hp; omega
    rw [e, dec_snoc hpos (Nat.mod_lt _ (by decide)), dec_pd q hq k (r / 10) hr, List.append_assoc]
    rfl
theorem pd_zero : ∀ k, pd k 0 = List.replicate k 48
  | 0 => rfl
  | k + 1 => by
    show pd k (0 / 10) ++ [48 + 0 % 10] = _
    rw [Nat.zero_div, pd_zero k, Nat.zero_mod, List.replicate_succ']
theorem pd_pad : ∀ (k r : Nat), 0 < k → r < 10 ^ k → pd k r = List.replicate (k - (dec r).length) 48 ++ dec r
  | 0, r, h0, h => by omega
  | k + 1, r, h0, h => by
    show pd k (r / 10) ++ [48 + r % 10] = _
    by_cases hr : r < 10
    · rw [Nat.div_eq_of_lt hr, pd_zero, Nat.mod_eq_of_lt hr, dec_lt hr]; rfl
    · have hr' : r / 10 < 10 ^ k := by rw [Nat.pow_succ] at h; exact Nat.div_lt_of_lt_mul (by rw [Nat.mul_comm]; exact h)
      have hk : 0 < k := by
        refine Nat.pos_of_ne_zero fun z => ?_
        subst z
        have : r < 10 := by simpa using h
        exact hr this
      have e := dec_snoc (q := r / 10) (d := r % 10) (by omega) (Nat.mod_lt _ (by decide))
      rw [Nat.div_add_mod] at e
      rw [pd_pad k (r / 10) hk hr', e, List.append_assoc, List.length_append, List.length_singleton, Nat.add_sub_add_right]
theorem dec_cut (k n : Nat) (h0 : 0 < k) (h : 10 ^ k ≤ n) : dec n = dec (n / 10 ^ k) ++ (List.replicate (k - (dec (n % 10 ^ k)).length) 48 ++ dec (n % 10 ^ k)) := by
  have hp : 0 < 10 ^ k := Nat.pow_pos (by decide)
  have hm := Nat.mod_lt n hp
  rw [← pd_pad k _ h0 hm, ← dec_pd _ (Nat.div_pos h hp) k _ hm, Nat.mul_comm, Nat.div_add_mod]
def shown (i : Int) : List Nat := if i < 0 then 45 :: dec i.natAbs else dec i.natAbs
theorem str_nat (m : Nat) : Str.ofString (toString (m : Int)) = txt (dec m) := str_ext (PySem.W.KIN.signs_num m)
theorem str_int (i : Int) : Str.ofString (toString i) = txt (shown i) := by
  unfold shown
  cases i with
  | ofNat m =>
    rw [if_neg (by show ¬ (m : Int) < 0; omega)]
    exact str_nat m
  | negSucc m =>
    rw [if_pos (by omega)]
    apply str_ext
    rw [PyProof.Rows.signs_ofString]
    show (("-" ++ Nat.repr (m + 1) : String).toList.map Char.toNat) = _
    rw [String.toList_append, List.map_append]
    have e := PySem.W.KIN.signs_num (m + 1)
    rw [PyProof.Rows.signs_ofString] at e
    rw [show (Nat.repr (m + 1)).toList.map Char.toNat = dec (m + 1) from e]
    rfl
theorem zfill_dec (r : Nat) : Txt.zfill (txt (dec r)) 64 = txt (List.replicate (64 - (dec r).length) 48 ++ dec r) := by
  unfold Txt.zfill
  have hl : (txt (dec r)).length = (dec r).length := by show (dec r).toArray.size = _; simp
  rw [hl]
  split
  · rename_i c
    rw [show 64 - (dec r).length = 0 by omega]; rfl
  · unfold zfilled
    have hd := dec_dig r
    have hn := dec_ne r
    cases h : dec r with
    | nil => exact absurd h hn
    | cons c cs =>
      have hc := hd c (by rw [h]; exact List.mem_cons_self)
      have e0 : (txt (c :: cs)).cps[0]? = some c := by show (c :: cs).toArray[0]? = _; simp
      rw [e0]
      have n43 : c ≠ 43 := by omega
      have n45 : c ≠ 45 := by omega
      split
      · rename_i z; injection z with z; exact absurd z n43
      · rename_i z; injection z with z; exact absurd z n45
      · apply str_ext
        show (Array.replicate _ 48 ++ (txt (c :: cs)).cps ++ Array.replicate 0 48).toList = _
        simp [txt]
end K3
end
section
set_option Elab.async false
set_option linter.all false
set_option maxRecDepth 100000
set_option maxHeartbeats 4000000
namespace K3
open PySem PySem.Spec PyProof.Rows L2
open PySem.NumText (AllDigits digitsVal)
def dg (c : Nat) : Bool := decide (48 ≤ c ∧ c ≤ 57)
theorem dg_iff {c : Nat} : dg c = true ↔ 48 ≤ c ∧ c ≤ 57 := by unfold dg; exact decide_eq_true_iff
theorem e_figs : ("0123456789" : Str).cps = #[48, 49, 50, 51, 52, 53, 54, 55, 56, 57] := by decide +kernel
theorem figs_in (c : Nat) : ("0123456789" : Str).cps.contains c = dg c := by
  rw [e_figs]
  cases h : dg c with
  | true =>
    have := dg_iff.mp h
    have : c = 48 ∨ c = 49 ∨ c = 50 ∨ c = 51 ∨ c = 52 ∨ c = 53 ∨ c = 54 ∨ c = 55 ∨ c = 56 ∨ c = 57 := by omega
    rcases this with rfl | rfl | rfl | rfl | rfl | rfl | rfl | rfl | rfl | rfl <;> decide +kernel
  | false =>
    have hn : ¬ (48 ≤ c ∧ c ≤ 57) := fun z => by rw [dg_iff.mpr z] at h; cases h
    refine Bool.eq_false_iff.mpr fun z => hn ?_
    have z1 : c ∈ #[48, 49, 50, 51, 52, 53, 54, 55, 56, 57] := Array.contains_iff_mem.mp z
    simp at z1
    omega
theorem figs_one (c : Nat) : (!(Builtin.Str.occurrences "0123456789" ⟨#[c]⟩ 0 ("0123456789" : Str).length 1).isEmpty) = dg c := by
  rw [in_first, e_figs]
  cases h : dg c with
  | true =>
    have := dg_iff.mp h
    have : c = 48 ∨ c = 49 ∨ c = 50 ∨ c = 51 ∨ c = 52 ∨ c = 53 ∨ c = 54 ∨ c = 55 ∨ c = 56 ∨ c = 57 := by omega
    rcases this with rfl | rfl | rfl | rfl | rfl | rfl | rfl | rfl | rfl | rfl <;> decide +kernel
  | false =>
    have hn : ¬ (48 ≤ c ∧ c ≤ 57) := fun z => by rw [dg_iff.mpr z] at h; cases h
    refine Bool.eq_false_iff.mpr fun z => hn ?_
    obtain ⟨i, hi⟩ := Option.isSome_iff_exists.mp z
    have h2 := (firstAt_some hi).2.1
    have hm : c ∈ [48, 49, 50, 51, 52, 53, 54, 55, 56, 57] := by
      have : c ∈ ([48, 49, 50, 51, 52, 53, 54, 55, 56, 57].drop i).take [c].length := by
        have h3 : ([48, 49, 50, 51, 52, 53, 54, 55, 56, 57].drop i).take [c].length = [c] := h2
        rw [h3]; exact List.mem_singleton.mpr rfl
      exact List.mem_of_mem_drop (List.mem_of_mem_take this)
    simp at hm
    omega
theorem tw_last {p : Nat → Bool} {c : Nat} (hc : p c = false) (l : List Nat) : ((l ++ [c]).takeWhile p).length ≤ l.length := by
  induction l with
  | nil => rw [List.nil_append, List.takeWhile_cons, hc]; exact Nat.le_refl _
  | cons a l ih =>
    rw [List.cons_append, List.takeWhile_cons]
    cases p a with
    | false => exact Nat.zero_le _
    | true => exact Nat.succ_le_succ ih
theorem tw_all {p : Nat → Bool} : ∀ (l : List Nat), l.all p = true → l.takeWhile p = l
  | [], _ => rfl
  | a :: l, h => by
    rw [List.all_cons, Bool.and_eq_true] at h
    rw [List.takeWhile_cons, h.1, if_pos rfl, tw_all l h.2]
theorem drop_tw {p : Nat → Bool} : ∀ (l : List Nat), l.all p = false → ∃ c r, l.drop (l.takeWhile p).length = c :: r ∧ p c = false
  | [], h => by cases h
  | a :: l, h => by
    rw [List.all_cons] at h
    rw [List.takeWhile_cons]
    cases hp : p a with
    | false => exact ⟨a, l, rfl, hp⟩
    | true =>
      rw [hp, Bool.true_and] at h
      exact drop_tw l h
theorem strip_figs (cs : List Nat) : decide (V.str (Txt.stripChars (txt cs) "0123456789") = V.str "") = cs.all dg := by
  have hg : (fun c => ("0123456789" : Str).cps.contains c) = dg := funext figs_in
  unfold Txt.stripChars Txt.stripBy
  rw [show ("0123456789" : Str).cps.contains = dg from hg]
  have hL : (txt cs).cps.toList = cs := rfl
  have hn : (txt cs).length = cs.length := by show cs.toArray.size = _; simp
  have lo : stripLo dg true (txt cs) = (cs.takeWhile dg).length := rfl
  have hi : stripHi dg true (txt cs) (cs.takeWhile dg).length = cs.length - ((cs.drop (cs.takeWhile dg).length).reverse.takeWhile dg).length := by
    unfold stripHi; rw [if_pos rfl, hn]; rfl
  unfold stripSame stripped
  rw [lo, hi, hn]
  cases h : cs.all dg with
  | true =>
    have tw : cs.takeWhile dg = cs := by
      exact tw_all cs h
    rw [tw, List.drop_length]
    refine decide_eq_true (congrArg V.str ?_)
    split
    · rename_i z
      rw [Bool.and_eq_true, beq_iff_eq] at z
      have : cs = [] := List.length_eq_zero_iff.mp z.1
      subst this; rfl
    · apply str_ext
      show ((txt cs).cps.extract cs.length (cs.length - 0)).toList = []
      rw [Nat.sub_zero]
      simp
  | false =>
    obtain ⟨c, r, e, hc⟩ := drop_tw cs h
    have hlen := congrArg List.length e
    rw [List.length_drop, List.length_cons] at hlen
    have tl : ((cs.drop (cs.takeWhile dg).length).reverse.takeWhile dg).length ≤ r.length := by
      rw [e, List.reverse_cons]
      have := tw_last hc r.reverse
      rw [List.length_reverse] at this
      exact this
    refine decide_eq_false fun z => ?_
    injection z with z
    have z2 := congrArg (fun s => s.cps.toList.length) z
    revert z2
    split
    · show cs.toArray.toList.length = 0 → False
      intro z2
      have : cs.length = 0 := by simpa using z2
      omega
    · show ((txt cs).cps.extract _ _).toList.length = 0 → False
      intro z2
      have : min (cs.length - ((cs.drop (cs.takeWhile dg).length).reverse.takeWhile dg).length) cs.length - (cs.takeWhile dg).length = 0 := by
        have hs : (txt cs).cps.size = cs.length := hn
        rw [Array.length_toList, Array.size_extract, hs] at z2
        exact z2
      omega
theorem starts_one (cs : List Nat) {y : Str} {d : Nat} (e : y = ⟨#[d]⟩) : Txt.startswith (txt cs) y = decide (cs.take 1 = [d]) := by
  subst e
  unfold Txt.startswith
  have hn : (txt cs).length = cs.length := by show cs.toArray.size = _; simp
  have h1 : (⟨#[d]⟩ : Str).length = 1 := rfl
  rw [StrLaws.subAt_eq, h1, hn]
  show (decide (0 + 1 ≤ cs.length) && ((cs.drop 0).take 1 == [d])) = _
  rw [List.drop_zero]
  cases cs with
  | nil => simp
  | cons a r => simp; rfl
def fg (w : List Nat) : List Nat := w.drop (if w.take 1 = [45] then 1 else 0)
def figB (cs : List Nat) : Bool := decide (1 ≤ cs.length ∧ cs.length ≤ 200) && cs.all dg && (decide (cs = [48]) || !decide (cs.take 1 = [48]))
def numB (w : List Nat) : Bool := figB (fg w) && !decide (w = [45, 48])
theorem fg_cases (w : List Nat) : (∃ r, w = 45 :: r ∧ fg w = r) ∨ (fg w = w ∧ w.take 1 ≠ [45]) := by
  unfold fg
  by_cases h : w.take 1 = [45]
  · rw [if_pos h]
    cases w with
    | nil => cases h
    | cons a r =>
      have : a = 45 := by simpa using h
      subst this
      exact .inl ⟨r, rfl, rfl⟩
  · rw [if_neg h]
    exact .inr ⟨rfl, h⟩
theorem num_law (w : List Nat) : numB w = (decide (1 ≤ (fg w).length ∧ (fg w).length ≤ 200) && !(decide ((fg w).take 1 = [48]) && !decide (w = [48])) && (fg w).all dg) := by
  unfold numB figB
  cases h1 : decide (1 ≤ (fg w).length ∧ (fg w).length ≤ 200) with
  | false => rfl
  | true =>
    cases h2 : (fg w).all dg with
    | false => simp
    | true =>
      rw [Bool.true_and, Bool.true_and, Bool.true_and, Bool.and_true]
      by_cases h3 : (fg w).take 1 = [48]
      · rw [decide_eq_true h3]
        simp only [Bool.not_true, Bool.or_false, Bool.true_and, Bool.not_not]
        rcases fg_cases w with ⟨r, e1, e2⟩ | ⟨e1, e2⟩
        · rw [e2]
          have : w ≠ [48] := fun z => by rw [e1] at z; injection z with z; cases z
          rw [decide_eq_false this]
          by_cases hr : r = [48]
          · subst hr; rw [e1]; rfl
          · rw [decide_eq_false hr]; rfl
        · rw [e1]
          have : w ≠ [45, 48] := fun z => e2 (by rw [z]; rfl)
          rw [decide_eq_false this]
          simp
      · rw [decide_eq_false h3]
        have : w ≠ [45, 48] := fun z => h3 (by rw [z]; rfl)
        rw [decide_eq_false this]
        simp
def numV (w : List Nat) : Int := (intText? (txt w)).getD 0
theorem num_some {w : List Nat} (h : numB w = true) : intText? (txt w) = some (numV w) ∧ w.length ≤ 201 := by
  unfold numB figB at h
  rw [Bool.and_eq_true, Bool.and_eq_true, Bool.and_eq_true, decide_eq_true_iff] at h
  obtain ⟨⟨⟨⟨l1, l2⟩, hd⟩, _⟩, _⟩ := h
  have hd' : AllDigits (fg w) := fun c hc => dg_iff.mp (List.all_eq_true.mp hd c hc)
  have hn : (txt w).length = w.length := by show w.toArray.size = _; simp
  have key : ∀ n, intText? (txt w) = some n → intText? (txt w) = some (numV w) := fun n e => by unfold numV; rw [e]; rfl
  rcases fg_cases w with ⟨r, e1, e2⟩ | ⟨e1, e2⟩
  · rw [e2] at hd' l1 l2
    refine ⟨key _ (PySem.intText_neg (cs := r) (by show w = _; exact e1) hd' (fun z => by rw [z] at l1; exact absurd l1 (by decide)) (by rw [hn, e1, List.length_cons]; omega)), by rw [e1, List.length_cons]; omega⟩
  · rw [e1] at hd' l1 l2
    exact ⟨key _ (PySem.intText_digits (x := txt w) hd' (fun z => by have : w = [] := z; rw [this] at l1; exact absurd l1 (by decide)) (by rw [hn]; omega)), by omega⟩
end K3
end
section
set_option Elab.async false
set_option linter.all false
set_option maxRecDepth 100000
set_option maxHeartbeats 4000000
namespace K3
open PySem PySem.Spec PyProof.Rows L2
section
variable {P : Program} {w : World} {K : PySem.W.Frag} {mg : Str → Option Value} {base : Heap}
theorem bt_divmod : bootBuiltins "divmod" = some (.builtin "divmod") := by decide +kernel
theorem dec_len {n k : Nat} (hk : 0 < k) (h : n < 2 ^ k) : (dec n).length ≤ k := by
  have e := nat_repr_length_le hk h
  unfold dec
  rw [List.length_map, ← Nat.toList_repr, String.length_toList]
  exact e
theorem log2_of {n : Nat} (h : n < 2 ^ 1000) : ((n : Int).natAbs).log2 < 1920 := by
  show n.log2 < 1920
  by_cases h0 : n = 0
  · subst h0; decide
  · exact (Nat.log2_lt h0).mpr (Nat.lt_of_lt_of_le h (Nat.pow_le_pow_right (by decide) (by decide)))
theorem flat_len : ∀ (pcs : List (List Nat)), (∀ p ∈ pcs, 1 ≤ p.length) → pcs.length ≤ pcs.flatten.length
  | [], _ => Nat.le_refl _
  | a :: l, h => by
    have := flat_len l fun p hp => h p (List.mem_cons_of_mem _ hp)
    have ha := h a List.mem_cons_self
    rw [List.flatten_cons, List.length_append, List.length_cons]
    omega
theorem flat_rev (pcs : List (List Nat)) : pcs.reverse.flatten.length = pcs.flatten.length := by
  rw [List.length_flatten, List.length_flatten, List.map_reverse, List.sum_reverse]
abbrev tl (pcs : List (List Nat)) : List V := (pcs.map txt).map V.str
theorem tl_snoc (pcs : List (List Nat)) (p : List Nat) : tl pcs ++ [V.str (txt p)] = tl (pcs ++ [p]) := by
  show _ = ((pcs ++ [p]).map txt).map V.str
  rw [List.map_append, List.map_append]; rfl
theorem tl_sum (pcs : List (List Nat)) : ((pcs.map txt).map (·.length)).sum = pcs.flatten.length := by
  rw [List.length_flatten, List.map_map]
  congr 1
def spFo : Sp := fun vs H Q _ => ∃ n : Nat, vs = [.int (n : Int)] ∧ n < 2 ^ 1000 ∧ ∀ H', Same H H' → Q (.str (txt (dec n))) H'
theorem sc_fo : FnScope ["number", "pieces", "piece"] ["number"] (defScope (top 16)) := ⟨rfl, rfl, rfl, by decide +kernel, rfl, by decide +kernel, by decide +kernel⟩
theorem ok_fo {d : DD} (D : Def K mg "figures_of" (top 16) ["number"] d) (b_divmod : mg "divmod" = none) (b_str : mg "str" = none) : FnOk P w K mg base CX0 1 d.f d.fd ["number"] spFo := by
  refine D.fn.ok sc_fo (fun vs H Q E h => ?_) (fun cdv A outer s H vs Q E hr h => ?_)
  · obtain ⟨n, rfl, _⟩ := h
    rfl
  obtain ⟨n, rfl, hn, q⟩ := h
  have hc := hr.calm
  have nd := sc_fo.nd
  have big : ∀ n : Nat, n ≤ 100000 → n ≤ sizeLine := fun n h => line4 (by omega)
  refine ⟨_, (@pss_cons _ _ _ _ _ (@ps_set _ _ (1) _ _ _ _ nd rfl (Or.inl rfl) (@pe_lst _ _ _ _ (@pa_nil _)) (by rfl) (by first | exact .inl rfl | exact .inr rfl | assumption)) (@pss_cons _ _ _ _ _ (@ps_while _ _ _ _ _ _ PassesOwn.never (@pt_cmpR _ _ _ _ _ _ _ _ op_ge (pv 0) (@pe_op _ _ _ _ _ _ _ _ op_pow (@pe_int _ _ _ _) (@pe_int _ _ _ _)) (nomark _)) (@pss_cons _ _ _ _ _ (@ps_asg _ _ _ _ _ _ (@pe_callB _ _ _ _ _ _ _ _ _ call_divmodW rfl b_divmod bt_divmod (@pa_cons _ _ _ _ _ (pv 0) (@pa_cons _ _ _ _ _ (@pe_op _ _ _ _ _ _ _ _ op_pow (@pe_int _ _ _ _) (@pe_int _ _ _ _)) (@pa_nil _) (by rfl)) st_n) (by decide) (by decide) (by rfl) (by rfl)) (@pg_tup _ _ _ _ _ _ hc (@pgs_cons _ _ _ _ _ (@pg_name _ _ (0) _ nd rfl (Or.inl rfl) (by first | exact .inl rfl | exact .inr rfl | assumption)) (@pgs_cons _ _ _ _ _ (@pg_name _ _ (2) _ nd rfl (Or.inl rfl) (by first | exact .inl rfl | exact .inr rfl | assumption)) (@pgs_nil _) (by rfl)) (by rfl)) (by rfl) (by rfl)) (by rfl) (by rfl) (by rfl)) (@pss_one _ _ _ (@ps_expr _ _ _ _ (@pe_bm _ _ _ _ _ _ _ _ _ _ _ _ PySem.F.plainAttrs_list PySem.F.slot_list_append PySem.F.type_list_append mt_append (pv 1) (@pa_cons _ _ _ _ _ (@pe_bm _ _ _ _ _ _ _ _ _ _ _ _ PySem.F.plainAttrs_str PySem.F.slot_str_zfill PySem.F.type_str_zfill mt_zfill (@pe_callTy _ _ _ _ _ _ _ _ _ call_str_int rfl b_str bt_str (@pa_cons _ _ _ _ _ (pv 2) (@pa_nil _) st_n) (by decide) (by decide) (by rfl) (by rfl)) (@pa_cons _ _ _ _ _ (@pe_int _ _ _ _) (@pa_nil _) st_c) (by rfl) (by rfl) (by rfl) (by rfl) (by rfl)) (@pa_nil _) st_f) (by rfl) (by rfl) (by rfl) (by rfl) (by rfl)) (by rfl))))) (@pss_cons _ _ _ _ _ (@ps_expr _ _ _ _ (@pe_bm _ _ _ _ _ _ _ _ _ _ _ _ PySem.F.plainAttrs_list PySem.F.slot_list_append PySem.F.type_list_append mt_append (pv 1) (@pa_cons _ _ _ _ _ (@pe_callTy _ _ _ _ _ _ _ _ _ call_str_int rfl b_str bt_str (@pa_cons _ _ _ _ _ (pv 0) (@pa_nil _) st_n) (by decide) (by decide) (by rfl) (by rfl)) (@pa_nil _) st_f) (by rfl) (by rfl) (by rfl) (by rfl) (by rfl)) (by rfl)) (@pss_one _ _ _ (@ps_ret _ _ _ _ (@pe_bm _ _ _ _ _ _ _ _ _ _ _ _ PySem.F.plainAttrs_str PySem.F.slot_str_join PySem.F.type_str_join mt_join (@pe_str _ _ _ _) (@pa_cons _ _ _ _ _ (@pe_rev _ _ _ _ _ _ _ _ rv_list (pv 1) (@pe_un _ _ _ _ _ _ un_neg (@pe_int _ _ _ _))) (@pa_nil _) (by rfl)) (by rfl) (by rfl) (by rfl) (by rfl) (by rfl))))))), ?_⟩
  refine ⟨Nat.zero_le _, fun L nL => ?_⟩
  refine ⟨fun m σ H' => ∃ (num : Nat) (pcs : List (List Nat)) (e2 : Option V), m = num ∧ σ = [some (.int (num : Int)), some (.ref L), e2] ∧ Hs H [(L, .lst (tl pcs))] H' ∧ num < 2 ^ 1000 ∧ dec n = dec num ++ pcs.reverse.flatten ∧ ∀ p ∈ pcs, 1 ≤ p.length,
    ⟨n, n, [], none, rfl, rfl, (Hs.start H).new nL _, hn, (by rw [List.reverse_nil]; show _ = dec n ++ []; rw [List.append_nil]), fun p hp => absurd hp (by simp)⟩, ?_⟩
  rintro m σ H1 ⟨num, pcs, e2, rfl, rfl, F, hnum, hd, hp⟩
  have gL := F.get 0
  have dl := dec_len (by decide) hn
  have fl := flat_len pcs hp
  have fr := flat_rev pcs
  have hd2 := congrArg List.length hd
  rw [List.length_append] at hd2
  have lp : (tl pcs).length = pcs.length := by show ((pcs.map txt).map V.str).length = _; rw [List.length_map, List.length_map]
  refine ⟨_, rfl, _, _, rfl, rfl, ⟨by decide, by decide, by decide⟩, _, _, rfl, rfl, decide (10 ^ 64 ≤ m), ?_, ?_⟩
  · show V.bl (decide ((10 : Int) ^ 64 ≤ (m : Int))) = _
    congr 1
    refine decide_eq_decide.mpr ⟨fun h => by exact_mod_cast h, fun h => by exact_mod_cast h⟩
  cases hb : decide (10 ^ 64 ≤ m) with
  | true =>
    have hb' := of_decide_eq_true hb
    refine ⟨_, fun σ' H' z => z, ?_⟩
    have em : ((m : Int) % 10 ^ Int.toNat 64) = ((m % 10 ^ 64 : Nat) : Int) := by show (m : Int) % 10 ^ 64 = _; exact_mod_cast rfl
    have eq : ((m : Int) / 10 ^ Int.toNat 64) = ((m / 10 ^ 64 : Nat) : Int) := by show (m : Int) / 10 ^ 64 = _; exact_mod_cast rfl
    refine ⟨_, rfl, _, _, rfl, rfl, ⟨by decide, by decide, by decide⟩, _, _, rfl, (by decide), (by decide), fun p np => ?_⟩
    rw [em, eq]
    have F2 := F.mono (same_new np (.tup [V.int ((m / 10 ^ 64 : Nat) : Int), .int ((m % 10 ^ 64 : Nat) : Int)]))
    refine ⟨p, _, rfl, SqT.of upd_same, rfl, _, _, rfl, _, _, rfl, rfl, ?_⟩
    have gL2 := F2.get 0
    have hm : m % 10 ^ 64 < 2 ^ 1000 := Nat.lt_of_le_of_lt (Nat.mod_le _ _) hnum
    have hm2 : m / 10 ^ 64 < 2 ^ 1000 := Nat.lt_of_le_of_lt (Nat.div_le_self _ _) hnum
    refine ⟨_, rfl, .inl ⟨rfl, _, SqL.of gL2⟩, _, rfl, _, rfl, log2_of hm, ?_⟩
    rw [str_nat]
    refine ⟨rfl, _, _, rfl, rfl, (by decide), ?_⟩
    rw [zfill_dec]
    refine ⟨L, _, _, rfl, rfl, gL2, (by rw [lp]; exact Nat.lt_of_lt_of_le (show pcs.length < 1000000 by omega) (line4 (Nat.le_refl _))), ?_⟩
    rw [tl_snoc]
    have hc2 := dec_cut 64 m (by decide) hb'
    refine ⟨m / 10 ^ 64, Nat.div_lt_self (Nat.lt_of_lt_of_le (by decide) hb') (by decide), m / 10 ^ 64, pcs ++ [List.replicate (64 - (dec (m % 10 ^ 64)).length) 48 ++ dec (m % 10 ^ 64)], _, rfl, rfl, ?_, hm2, ?_, fun z hz => ?_⟩
    · have F3 := F2.put 0 (.lst (tl (pcs ++ [List.replicate (64 - (dec (m % 10 ^ 64)).length) 48 ++ dec (m % 10 ^ 64)])))
      exact F3
    · rw [hd, hc2, List.reverse_append, List.append_assoc]
      rfl
    · rcases List.mem_append.mp hz with h1 | h1
      · exact hp z h1
      · rw [List.mem_singleton] at h1
        subst h1
        have := List.length_pos_iff.mpr (dec_ne (m % 10 ^ 64))
        rw [List.length_append]; omega
  | false =>
    refine ⟨_, rfl, .inl ⟨rfl, _, SqL.of gL⟩, _, rfl, _, rfl, log2_of hnum, ?_⟩
    rw [str_nat]
    refine ⟨L, _, _, rfl, rfl, gL, (by rw [lp]; exact Nat.lt_of_lt_of_le (show pcs.length < 1000000 by omega) (line4 (Nat.le_refl _))), ?_⟩
    rw [tl_snoc]
    have F2 := F.put 0 (.lst (tl (pcs ++ [dec m])))
    have gL2 := F2.get 0
    refine ⟨rfl, _, rfl, _, rfl, rfl, ?_⟩
    refine ⟨L, _, rfl, SqL.of gL2, fun p np => ?_⟩
    have er : (tl (pcs ++ [dec m])).reverse = tl (pcs ++ [dec m]).reverse := by
      show (((pcs ++ [dec m]).map txt).map V.str).reverse = _
      rw [← List.map_reverse, ← List.map_reverse]
    rw [er]
    refine ⟨"", p, ((pcs ++ [dec m]).reverse).map txt, rfl, rfl, SqL.of upd_same, ?_, ?_⟩
    · rw [tl_sum, flat_rev, List.flatten_append, List.length_append]
      show pcs.flatten.length + ([dec m] : List (List Nat)).flatten.length + _ * 0 ≤ _
      rw [List.flatten_singleton]
      omega
    · rw [join_txts, List.reverse_append]
      have e3 : ([dec m].reverse ++ pcs.reverse).flatten = dec n := by rw [hd]; rfl
      rw [e3]
      exact q _ (F2.all.trans (same_new np _))
theorem txt_app (x y : List Nat) : txt x ++ txt y = txt (x ++ y) := by
  apply str_ext
  show (x.toArray ++ y.toArray).toList = _
  simp [txt]
theorem shown_neg {i : Int} (h : i < 0) : shown i = 45 :: dec i.natAbs := by unfold shown; rw [if_pos h]
theorem shown_pos {i : Int} (h : ¬ i < 0) : shown i = dec i.natAbs := by unfold shown; rw [if_neg h]
theorem e_minus : ("-" : Str) = txt [45] := by decide +kernel
def spNt : Sp := fun vs H Q _ => ∃ i : Int, vs = [.int i] ∧ i.natAbs < 2 ^ 1000 ∧ ∀ H', Same H H' → Q (.str (txt (shown i))) H'
theorem sc_nt : FnScope ["number"] ["number"] (defScope (top 17)) := ⟨rfl, rfl, rfl, by decide +kernel, rfl, by decide +kernel, by decide +kernel⟩
theorem ok_nt {df d : DD} (D_fo : Def K mg "figures_of" (top 16) ["number"] df) (G_fo : FnOk P w K mg base CX0 1 df.f df.fd ["number"] spFo) (D : Def K mg "number_text" (top 17) ["number"] d) : FnOk P w K mg base CX0 2 d.f d.fd ["number"] spNt := by
  refine D.fn.ok sc_nt (fun vs H Q E h => ?_) (fun cdv A outer s H vs Q E hr h => ?_)
  · obtain ⟨n, rfl, _⟩ := h
    rfl
  obtain ⟨i, rfl, hn, q⟩ := h
  have hc := hr.calm
  have nd := sc_nt.nd
  refine ⟨_, (@pss_one _ _ _ (@ps_ret _ _ _ _ (@pe_ifExp _ _ _ _ _ _ _ _ (@pt_cmpR _ _ _ _ _ _ _ _ op_lt (pv 0) (@pe_int _ _ _ _) (nomark _)) (@pe_op _ _ _ _ _ _ _ _ op_add_str (@pe_str _ _ _ _) (@pe_call _ _ _ _ _ _ _ _ _ _ _ _ _ _ _ _ (G_fo.mono (by decide)) hr rfl D_fo.m D_fo.fn.kp D_fo.b .nil pass0 (@pa_cons _ _ _ _ _ (@pe_un _ _ _ _ _ _ un_neg (pv 0)) (@pa_nil _) (by rfl)) (by decide) (by rfl) (by rfl))) (@pe_call _ _ _ _ _ _ _ _ _ _ _ _ _ _ _ _ (G_fo.mono (by decide)) hr rfl D_fo.m D_fo.fn.kp D_fo.b .nil pass0 (@pa_cons _ _ _ _ _ (pv 0) (@pa_nil _) st_n) (by decide) (by rfl) (by rfl))))), ?_⟩
  have dl := dec_len (by decide) hn
  refine ⟨_, rfl, _, _, rfl, rfl, _, rfl, ite2 (fun c => ?_) (fun c => ?_)⟩
  · have c' : i < 0 := of_decide_eq_true c
    have ei : -i = ((i.natAbs : Nat) : Int) := by omega
    refine ⟨_, rfl, _, rfl, ?_⟩
    refine ⟨i.natAbs, (by rw [← ei]; rfl), hn, fun H1 S1 => ?_⟩
    refine ⟨_, _, rfl, rfl, line4 (by show 1 + (dec i.natAbs).length ≤ 1000000; omega), ?_⟩
    rw [e_minus, txt_app]
    have z := q H1 S1
    rw [shown_neg c'] at z
    exact z
  · have c' : ¬ i < 0 := of_decide_eq_false (Bool.eq_false_iff.mpr c)
    have ei : i = ((i.natAbs : Nat) : Int) := by omega
    refine ⟨_, rfl, i.natAbs, (by rw [← ei]; rfl), hn, fun H1 S1 => ?_⟩
    have z := q H1 S1
    rw [shown_pos c'] at z
    exact z
end
end K3
end
section
set_option Elab.async false
set_option linter.all false
set_option maxRecDepth 100000
set_option maxHeartbeats 4000000
namespace K3
open PySem PySem.Spec PyProof.Rows L2
section
variable {P : Program} {w : World} {K : PySem.W.Frag} {mg : Str → Option Value} {base : Heap}
def tt (is : List Int) : Str := Txt.join "," (is.map fun i => txt (shown i))
def spTt (K : PySem.W.Frag) : Sp := fun vs H Q _ => ∃ (a : Addr) (is : List Int), vs = [.ref a] ∧ H a = some (.tup (is.map V.int)) ∧ is.length = 4 ∧ (∀ i ∈ is, i.natAbs < 2 ^ 1000) ∧ ∀ H', Same H H' → Q (.str (tt is)) H'
theorem shown_len {i : Int} (h : i.natAbs < 2 ^ 1000) : (shown i).length ≤ 1001 := by
  have := dec_len (by decide) h
  unfold shown
  split
  · rw [List.length_cons]; omega
  · omega
theorem sum_len : ∀ (is : List Int), (∀ i ∈ is, i.natAbs < 2 ^ 1000) → ((is.map fun i => txt (shown i)).map (·.length)).sum ≤ 1001 * is.length
  | [], _ => Nat.zero_le _
  | i :: r, h => by
    have h1 := shown_len (h i List.mem_cons_self)
    have h2 := sum_len r fun j hj => h j (List.mem_cons_of_mem _ hj)
    have e : (txt (shown i)).length = (shown i).length := by show (shown i).toArray.size = _; simp
    rw [List.map_cons, List.map_cons, List.sum_cons, List.length_cons, e]
    omega
theorem sc_tt : FnScope ["table"] ["table"] (defScope (top 18)) := ⟨rfl, rfl, rfl, by decide +kernel, rfl, by decide +kernel, by decide +kernel⟩
theorem ok_tt {dn d : DD} (D_nt : Def K mg "number_text" (top 17) ["number"] dn) (G_nt : FnOk P w K mg base CX0 2 dn.f dn.fd ["number"] spNt) (D : Def K mg "table_text" (top 18) ["table"] d) : FnOk P w K mg base CX0 3 d.f d.fd ["table"] (spTt K) := by
  refine D.fn.ok sc_tt (fun vs H Q E h => ?_) (fun cdv A outer s H vs Q E hr h => ?_)
  · obtain ⟨a, is, rfl, _⟩ := h
    rfl
  obtain ⟨a, is, rfl, ha, hl, hi, q⟩ := h
  have hc := hr.calm
  have nd := sc_tt.nd
  refine ⟨_, (@pss_one _ _ _ (@ps_ret _ _ _ _ (@pe_bm _ _ _ _ _ _ _ _ _ _ _ _ PySem.F.plainAttrs_str PySem.F.slot_str_join PySem.F.type_str_join mt_join (@pe_str _ _ _ _) (@pa_cons _ _ _ _ _ (@pe_comp _ _ _ _ _ _ _ _ _ _ _ _ _ _ hc (compScope_of (ts := ["number"]) (cap := []) (js := []) rfl rfl rfl rfl rfl rfl (by decide +kernel)) (@pi_tup _ _ _ _ (pv 0)) (fun _ _ _ _ => @pg_name _ _ (0) _ (show (["number"] : List Str).Nodup by decide +kernel) rfl (Or.inl rfl) (.inr rfl)) (fun _ _ _ _ => @pts_nil _) (fun _ _ _ _ => (@pe_call _ _ _ _ _ _ _ _ _ _ _ _ _ _ _ _ (G_nt.mono (by decide)) hr rfl D_nt.m D_nt.fn.kp D_nt.b .nil pass0 (@pa_cons _ _ _ _ _ (pv 0) (@pa_nil _) st_n) (by decide) (by rfl) (by rfl))) (by intro _; rfl)) (@pa_nil _) (by rfl)) (by rfl) (by rfl) (by rfl) (by rfl) (by rfl)))), ?_⟩
  have sg : ∀ n, ((is.take n).map fun i => V.str (txt (shown i))) = ((is.take n).map fun i => txt (shown i)).map V.str := fun n => by rw [List.map_map]; rfl
  refine ⟨rfl, _, rfl, a, rfl, ⟨_, SqT.of ha⟩, ?_⟩
  refine compT (K := K) (a := a) (xs := is.map V.int) (fun n ys H' => Same H H' ∧ ys = (is.take n).map fun i => V.str (txt (shown i))) ⟨Same.refl _, rfl⟩ (fun n ys H' hk z => by rw [z.2, List.length_map, List.length_take]; omega) (line4 (by rw [List.length_map, hl]; decide)) (fun n ys H' hk z => SqT.of (z.1 _ _ ha)) (fun n v ys H' hv z => ?_) (fun ys H' z l hl' => ?_)
  · obtain ⟨z1, rfl⟩ := z
    rw [List.getElem?_map] at hv
    obtain ⟨i, hi', rfl⟩ := Option.map_eq_some_iff.mp hv
    have hn : n < is.length := (List.getElem?_eq_some_iff.mp hi').1
    refine ⟨_, rfl, i, rfl, hi i (List.mem_of_getElem? hi'), fun H2 S2 => Nx.mk (by rw [List.length_map]; exact hn) ⟨z1.trans S2, ?_⟩⟩
    rw [List.take_add_one, hi', List.map_append]; rfl
  · obtain ⟨z1, rfl⟩ := z
    rw [List.length_map, List.take_length] at *
    have sz := sum_len is hi
    have e2 : (is.map fun i => V.str (txt (shown i))) = (is.map fun i => txt (shown i)).map V.str := by rw [List.map_map]; rfl
    refine ⟨",", l, is.map fun i => txt (shown i), rfl, rfl, (by rw [← e2]; exact SqL.of upd_same), ?_, q _ (z1.trans (same_new hl' _))⟩
    rw [List.length_map, hl] at *
    have : (("," : Str).length) = 1 := rfl
    rw [this]; omega
end
end K3
end
section
set_option Elab.async false
set_option linter.all false
set_option maxRecDepth 100000
set_option maxHeartbeats 4000000
namespace K3
open PySem PySem.Spec PyProof.Rows L2
section
variable {P : Program} {w : World} {K : PySem.W.Frag} {mg : Str → Option Value} {base : Heap}
theorem e_zero : ("0" : Str) = ⟨#[48]⟩ := by decide +kernel
theorem e_zero' : ("0" : Str) = txt [48] := by decide +kernel
theorem e_mz : ("-0" : Str) = txt [45, 48] := by decide +kernel
theorem e_min : ("-" : Str) = ⟨#[45]⟩ := by decide +kernel
theorem txt_eq (x y : List Nat) : decide (V.str (txt x) = V.str (txt y)) = decide (x = y) := by
  congr 1
  refine propext ⟨fun h => ?_, fun h => by rw [h]⟩
  have : (txt x).cps.toList = (txt y).cps.toList := by rw [V.str.inj h]
  exact this
def spFig : Sp := fun vs H Q _ => ∃ cs, vs = [.str (txt cs)] ∧ cs.length ≤ 100000 ∧ Q (.bl (figB cs)) H
theorem sc_fig : FnScope ["text"] ["text"] (defScope (top 19)) := ⟨rfl, rfl, rfl, by decide +kernel, rfl, by decide +kernel, by decide +kernel⟩
theorem ok_fig {d : DD} {tF : Tok} (m_FIG : mg "FIGURES" = some (.str "0123456789" tF))  {tM : Tok} (m_MF : mg "MOST_FIGURES" = some (.int 200 tM))  (D : Def K mg "is_figures" (top 19) ["text"] d) (b_len : mg "len" = none) : FnOk P w K mg base CX0 1 d.f d.fd ["text"] spFig := by
  refine D.fn.ok sc_fig (fun vs H Q E h => ?_) (fun cdv A outer s H vs Q E hr h => ?_)
  · obtain ⟨cs, rfl, _⟩ := h
    rfl
  obtain ⟨cs, rfl, hl, q⟩ := h
  have hc := hr.calm
  have nd := sc_fig.nd
  have big : ∀ n : Nat, n ≤ 100000 → n ≤ sizeLine := fun n h => line4 (by omega)
  have hn : (txt cs).length = cs.length := by show cs.toArray.size = _; simp
  refine ⟨_, (@pss_cons _ _ _ _ _ (@ps_if _ _ _ _ _ _ _ _ (@PW.pt _ _ _ (@pw_or _ _ _ _ _ _ _ (@pt_not _ _ _ _ (@pt_chain _ _ _ _ _ _ _ _ _ _ _ _ op_le op_le (@pe_int _ _ _ _) (@pe_callB _ _ _ _ _ _ _ _ _ call_len_str rfl b_len bt_len (@pa_cons _ _ _ _ _ (pv 0) (@pa_nil _) st_n) (by decide) (by decide) (by rfl) (by rfl)) (@pe_glob _ _ (.int 200) _ _ rfl m_MF ⟨_, rfl⟩ (by decide)) (by with_unfolding_all rfl))) (@pw_or1 _ _ _ _ (@pt_cmpR _ _ _ _ _ _ _ _ op_ne (@pe_bm _ _ _ _ _ _ _ _ _ _ _ _ PySem.F.plainAttrs_str PySem.F.slot_str_strip PySem.F.type_str_strip mt_strip (pv 0) (@pa_cons _ _ _ _ _ (@pe_glob _ _ (.str "0123456789") _ _ rfl m_FIG ⟨_, rfl⟩ (by decide)) (@pa_nil _) st_n) (by rfl) (by rfl) (by rfl) (by rfl) (by rfl)) (@pe_str _ _ _ _) (nomark _))))) (@pss_one _ _ _ (@ps_ret _ _ _ _ (@pe_bl _ _ _ _))) (@pss_nil _)) (@pss_one _ _ _ (@ps_ret _ _ _ _ (@pe_or _ _ _ _ _ _ _ (@pe_cmpR _ _ _ _ _ _ _ _ op_eq (pv 0) (@pe_str _ _ _ _) (nomark _)) (@pe_one _ _ _ _ _ (@pe_not _ _ _ _ (@pe_bm _ _ _ _ _ _ _ _ _ _ _ _ PySem.F.plainAttrs_str PySem.F.slot_str_startswith PySem.F.type_str_startswith mt_starts (pv 0) (@pa_cons _ _ _ _ _ (@pe_str _ _ _ _) (@pa_nil _) st_c) (by rfl) (by rfl) (by rfl) (by rfl) (by rfl)))))))), ?_⟩
  have sp := strip_figs cs
  have st := starts_one cs e_zero
  have z := q
  unfold figB at z
  refine ⟨_, rfl, txt cs, rfl, big _ (by rw [hn]; omega), _, _, rfl, rfl, decide ((1 : Int) ≤ ((txt cs).length : Nat)), rfl, ?_⟩
  rw [hn]
  by_cases h1 : (1 : Int) ≤ ((cs.length : Nat) : Int)
  · rw [decide_eq_true h1, if_pos rfl]
    refine ⟨_, _, rfl, rfl, decide (((cs.length : Nat) : Int) ≤ 200), rfl, ?_⟩
    by_cases h2 : ((cs.length : Nat) : Int) ≤ 200
    · rw [decide_eq_true h2]
      have hh : (1 ≤ cs.length ∧ cs.length ≤ 200) := by omega
      rw [decide_eq_true hh, Bool.true_and] at z
      refine ⟨_, rfl, rfl, _, _, rfl, rfl, big _ (by rw [hn]; omega), rfl, !cs.all dg, by rw [sp], ?_⟩
      cases h3 : cs.all dg with
      | false => rw [h3] at z; exact z
      | true =>
        rw [h3, Bool.true_and] at z
        refine ⟨_, rfl, rfl, decide (cs = [48]), (by rw [e_zero', txt_eq]), ?_⟩
        cases h4 : decide (cs = [48]) with
        | true => rw [h4] at z; exact z
        | false =>
          rw [h4, Bool.false_or] at z
          refine ⟨_, rfl, rfl, _, _, rfl, rfl, decide (cs.take 1 = [48]), by rw [st], z⟩
    · rw [decide_eq_false h2]
      have hh : ¬ (1 ≤ cs.length ∧ cs.length ≤ 200) := by omega
      rw [decide_eq_false hh] at z
      exact z
  · rw [decide_eq_false h1]
    have hh : ¬ (1 ≤ cs.length ∧ cs.length ≤ 200) := by omega
    rw [decide_eq_false hh] at z
    exact ⟨false, rfl, z⟩
def spInt : Sp := fun vs H Q _ => ∃ cs, vs = [.str (txt cs)] ∧ cs.length ≤ 100000 ∧ Q (.bl (numB cs)) H
theorem sc_int : FnScope ["text"] ["text"] (defScope (top 20)) := ⟨rfl, rfl, rfl, by decide +kernel, rfl, by decide +kernel, by decide +kernel⟩
theorem ok_int {df d : DD} (D_fig : Def K mg "is_figures" (top 19) ["text"] df) (G_fig : FnOk P w K mg base CX0 1 df.f df.fd ["text"] spFig) (D : Def K mg "is_number_text" (top 20) ["text"] d) : FnOk P w K mg base CX0 2 d.f d.fd ["text"] spInt := by
  refine D.fn.ok sc_int (fun vs H Q E h => ?_) (fun cdv A outer s H vs Q E hr h => ?_)
  · obtain ⟨cs, rfl, _⟩ := h
    rfl
  obtain ⟨cs, rfl, hl, q⟩ := h
  have hc := hr.calm
  have nd := sc_int.nd
  have big : ∀ n : Nat, n ≤ 100000 → n ≤ sizeLine := fun n h => line4 (by omega)
  have hn : (txt cs).length = cs.length := by show cs.toArray.size = _; simp
  refine ⟨_, (@pss_one _ _ _ (@ps_ret _ _ _ _ (@pe_and _ _ _ _ _ _ _ (@pe_call _ _ _ _ _ _ _ _ _ _ _ _ _ _ _ _ (G_fig.mono (by decide)) hr rfl D_fig.m D_fig.fn.kp D_fig.b .nil pass0 (@pa_cons _ _ _ _ _ (@pe_ifExp _ _ _ _ _ _ _ _ (@pt_val _ _ _ (@pe_bm _ _ _ _ _ _ _ _ _ _ _ _ PySem.F.plainAttrs_str PySem.F.slot_str_startswith PySem.F.type_str_startswith mt_starts (pv 0) (@pa_cons _ _ _ _ _ (@pe_str _ _ _ _) (@pa_nil _) st_c) (by rfl) (by rfl) (by rfl) (by rfl) (by rfl)) (by intro _; rfl)) (@pe_slice _ _ _ _ _ _ _ _ _ _ sl_str (pv 0) (@po_some _ _ _ (@pe_int _ _ _ _)) (@po_none _)) (pv 0)) (@pa_nil _) (by rfl)) (by decide) (by rfl) (by rfl)) (@pe_one _ _ _ _ _ (@pe_cmpR _ _ _ _ _ _ _ _ op_ne (pv 0) (@pe_str _ _ _ _) (nomark _)))))), ?_⟩
  have st := starts_one cs e_min
  have z := q
  unfold numB at z
  refine ⟨_, rfl, rfl, _, _, rfl, rfl, decide (cs.take 1 = [45]), by rw [st], ?_⟩
  by_cases h : cs.take 1 = [45]
  · have ef : fg cs = cs.drop 1 := by unfold fg; rw [if_pos h]
    rw [decide_eq_true h]
    rw [ef] at z
    refine ⟨_, rfl, _, rfl, txt cs, rfl, big _ (by rw [hn]; omega), ?_⟩
    rw [show (1 : Int) = ((1 : Nat) : Int) from rfl, slice_from]
    refine ⟨cs.drop 1, rfl, (by rw [List.length_drop]; omega), _, rfl, ?_⟩
    cases hb : figB (cs.drop 1) with
    | false => rw [hb] at z; exact z
    | true =>
      rw [hb, Bool.true_and] at z
      refine ⟨_, rfl, rfl, ?_⟩
      rw [e_mz, txt_eq]
      exact z
  · have ef : fg cs = cs := by unfold fg; rw [if_neg h]; rfl
    rw [decide_eq_false h]
    rw [ef] at z
    refine ⟨_, rfl, cs, rfl, hl, _, rfl, ?_⟩
    cases hb : figB cs with
    | false => rw [hb] at z; exact z
    | true =>
      rw [hb, Bool.true_and] at z
      refine ⟨_, rfl, rfl, ?_⟩
      rw [e_mz, txt_eq]
      exact z
def rd (x : Str) : Option (List Int) := if (Txt.split x ",").length = 4 ∧ ((Txt.split x ",").all fun p => numB p.cps.toList) = true then some ((Txt.split x ",").map fun p => numV p.cps.toList) else none
def rdV : V → Option (List Int)
  | .str x => rd x
  | _ => none
theorem sub_len (x : Str) (i j : Nat) : (Builtin.Str.strSub x i j).length ≤ x.length := by
  show (x.cps.extract i j).size ≤ x.cps.size
  rw [Array.size_extract]; omega
theorem sub_As {x : Str} (i j : Nat) (h : As x) : As (Builtin.Str.strSub x i j) := fun c hc => h c (by
  have : c ∈ (x.cps.extract i j).toList := hc
  rw [Array.toList_extract] at this
  exact List.mem_of_mem_drop (List.mem_of_mem_take this))
theorem part_of {x y p : Str} (h : p ∈ Txt.split x y) : p.length ≤ x.length ∧ (As x → As p) := by
  unfold Txt.split at h
  split at h
  · rw [List.mem_singleton] at h; subst h; exact ⟨Nat.le_refl _, id⟩
  · split at h
    · rw [List.mem_singleton] at h; subst h; exact ⟨Nat.le_refl _, id⟩
    · unfold Builtin.Str.partsBetween at h
      obtain ⟨⟨i, j⟩, _, rfl⟩ := List.mem_map.mp h
      exact ⟨sub_len x i j, sub_As i j⟩
def isS : V → Bool
  | .str _ => true
  | _ => false
theorem as_str {H : Hp} {v : V} (h : Kn H v) : ∃ t, TyOf K H v t ∧ PySem.W.kitOne K t (.type "str") = some (isS v) := by
  cases h with
  | non => exact ⟨_, .non, rfl⟩
  | bl b => exact ⟨_, .bl b, rfl⟩
  | int i => exact ⟨_, .int i, rfl⟩
  | str x => exact ⟨_, .str x, rfl⟩
  | lst e => exact ⟨_, .lst e, rfl⟩
  | tup e => exact ⟨_, .tup e, rfl⟩
def spRead (C : Addr) : Sp := fun vs H Q E => ∃ v, vs = [v] ∧ Kn H v ∧ (∀ x, v = .str x → As x ∧ x.length ≤ 100000) ∧ (rdV v = none → ∀ H', Same H H' → E (.ref C) none H') ∧ ∀ is, rdV v = some is → ∀ p H', Same H H' → H' p = some (.tup (is.map V.int)) → Q (.ref p) H'
theorem sc_read : FnScope ["text", "parts"] ["text"] (defScope (top 21)) := ⟨rfl, rfl, rfl, by decide +kernel, rfl, by decide +kernel, by decide +kernel⟩
theorem ok_read {di d : DD} {C : Addr} (m_NoText : mg "NoText" = some (.ref C)) (k_NoText : PySem.W.excIn K C bmVE "ValueError.__new__" = true)  (D_int : Def K mg "is_number_text" (top 20) ["text"] di) (G_int : FnOk P w K mg base CX0 2 di.f di.fd ["text"] spInt) (D : Def K mg "read_table" (top 21) ["text"] d) (b_len : mg "len" = none) (b_str : mg "str" = none) (b_int : mg "int" = none) (b_tuple : mg "tuple" = none) (b_all : mg "all" = none) (b_isinstance : mg "isinstance" = none) : FnOk P w K mg base (CXe P w) 3 d.f d.fd ["text"] (spRead C) := by
  refine D.fn.okE sc_read (fun vs H Q E h => ?_) (fun cdv A outer s H vs Q E hr h => ?_)
  · obtain ⟨v, rfl, _⟩ := h
    rfl
  obtain ⟨v, rfl, kn, hA, qE, q⟩ := h
  have hc := hr.calm
  have nd := sc_read.nd
  have big : ∀ n : Nat, n ≤ 100000 → n ≤ sizeLine := fun n h => line4 (by omega)
  refine ⟨_, (@pss_cons _ _ _ _ _ (@ps_if _ _ _ _ _ _ _ _ (@pt_not _ _ _ _ (@pt_val _ _ _ (@pe_callB _ _ _ _ _ _ _ _ _ call_isT rfl b_isinstance bt_isinstance (@pa_cons _ _ _ _ _ (pv 0) (@pa_cons _ _ _ _ _ (@pe_bltn _ _ (.ty "str") _ _ rfl b_str bt_str rfl (by decide) (by decide)) (@pa_nil _) st_n) st_n) (by decide) (by decide) (by rfl) (by rfl)) (by intro _; rfl))) (@pss_one _ _ _ (@ps_raise _ _ _ _ _ _ _ _ _ _ hc rfl m_NoText k_NoText (@pa_cons _ _ _ _ _ (@pe_str _ _ _ _) (@pa_nil _) st_c) xok_def (by decide) (by rfl) (by rfl))) (@pss_nil _)) (@pss_cons _ _ _ _ _ (@ps_set _ _ (1) _ _ _ _ nd rfl (Or.inl rfl) (@pe_bm _ _ _ _ _ _ _ _ _ _ _ _ PySem.F.plainAttrs_str PySem.F.slot_str_split PySem.F.type_str_split mt_split (pv 0) (@pa_cons _ _ _ _ _ (@pe_str _ _ _ _) (@pa_nil _) st_c) (by rfl) (by rfl) (by rfl) (by rfl) (by rfl)) (by rfl) (by first | exact .inl rfl | exact .inr rfl | assumption)) (@pss_cons _ _ _ _ _ (@ps_if _ _ _ _ _ _ _ _ (@PW.pt _ _ _ (@pw_or _ _ _ _ _ _ _ (@pt_cmpR _ _ _ _ _ _ _ _ op_ne (@pe_callB _ _ _ _ _ _ _ _ _ call_len_seq rfl b_len bt_len (@pa_cons _ _ _ _ _ (pv 1) (@pa_nil _) st_n) (by decide) (by decide) (by rfl) (by rfl)) (@pe_int _ _ _ _) (nomark _)) (@pw_or1 _ _ _ _ (@pt_not _ _ _ _ (@pt_val _ _ _ (@pe_callB _ _ _ _ _ _ _ _ _ (call_all hc) rfl b_all bt_all (@pa_cons _ _ _ _ _ (@pe_comp _ _ _ _ _ _ _ _ _ _ _ _ _ _ hc (compScope_of (ts := ["part"]) (cap := []) (js := []) rfl rfl rfl rfl rfl rfl (by decide +kernel)) (@pi_list _ _ _ _ (pv 1)) (fun _ _ _ _ => @pg_name _ _ (0) _ (show (["part"] : List Str).Nodup by decide +kernel) rfl (Or.inl rfl) (.inr rfl)) (fun _ _ _ _ => @pts_nil _) (fun _ _ _ _ => (@pe_call _ _ _ _ _ _ _ _ _ _ _ _ _ _ _ _ (G_int.mono (by decide)) hr rfl D_int.m D_int.fn.kp D_int.b .nil pass0 (@pa_cons _ _ _ _ _ (pv 0) (@pa_nil _) st_n) (by decide) (by rfl) (by rfl))) (by intro _; rfl)) (@pa_nil _) (by rfl)) (by decide) (by decide) (by rfl) (by rfl)) (by intro _; rfl)))))) (@pss_one _ _ _ (@ps_raise _ _ _ _ _ _ _ _ _ _ hc rfl m_NoText k_NoText (@pa_cons _ _ _ _ _ (@pe_str _ _ _ _) (@pa_nil _) st_c) xok_def (by decide) (by rfl) (by rfl))) (@pss_nil _)) (@pss_one _ _ _ (@ps_ret _ _ _ _ (@pe_callTy _ _ _ _ _ _ _ _ _ call_tuple_of rfl b_tuple bt_tuple (@pa_cons _ _ _ _ _ (@pe_comp _ _ _ _ _ _ _ _ _ _ _ _ _ _ hc (compScope_of (ts := ["part"]) (cap := []) (js := []) rfl rfl rfl rfl rfl rfl (by decide +kernel)) (@pi_list _ _ _ _ (pv 1)) (fun _ _ _ _ => @pg_name _ _ (0) _ (show (["part"] : List Str).Nodup by decide +kernel) rfl (Or.inl rfl) (.inr rfl)) (fun _ _ _ _ => @pts_nil _) (fun _ _ _ _ => (@pe_callTy _ _ _ _ _ _ _ _ _ (show CallR _ _ rIntS from call_intS) rfl b_int bt_int (@pa_cons _ _ _ _ _ (pv 0) (@pa_nil _) st_n) (by decide) (by decide) (by rfl) (by rfl))) (by intro _; rfl)) (@pa_nil _) (by rfl)) (by decide) (by decide) (by rfl) (by rfl))))))), ?_⟩
  obtain ⟨t1, y1, e1⟩ := as_str (K := K) kn
  refine ⟨v, rfl, v, .ty "str", t1, _, _, rfl, rfl, y1, e1, _, rfl, ?_⟩
  cases hs : isS v with
  | false =>
    have hv : rdV v = none := by cases v <;> first | rfl | (cases hs)
    exact ⟨line4 (by show 1 ≤ 1000000; decide), qE hv H (Same.refl _)⟩
  | true =>
    obtain ⟨x, rfl⟩ : ∃ x, v = .str x := by cases v <;> first | exact ⟨_, rfl⟩ | (cases hs)
    obtain ⟨xA, xl⟩ := hA x rfl
    have q : ∀ is, rd x = some is → ∀ p H', Same H H' → H' p = some (.tup (is.map V.int)) → Q (.ref p) H' := q
    have qE : rd x = none → ∀ H', Same H H' → E (.ref C) none H' := qE
    have x2 : x.length + 2 ≤ sizeLine := Nat.le_trans (show x.length + 2 ≤ 1000000 by omega) (line4 (Nat.le_refl _))
    refine ⟨_, rfl, rfl, x, _, rfl, rfl, rfl, x2, fun L nL => ?_⟩
    have S1 := same_new nL (.lst ((Txt.split x ",").map V.str))
    have g1 : upd H L (.lst ((Txt.split x ",").map V.str)) L = some (.lst ((Txt.split x ",").map V.str)) := upd_same
    have hp : ∀ p ∈ Txt.split x ",", p.length ≤ x.length ∧ As p := fun p h => ⟨(part_of h).1, (part_of h).2 xA⟩
    have erd : rd x = if (Txt.split x ",").length = 4 ∧ ((Txt.split x ",").all fun p => numB p.cps.toList) = true then some ((Txt.split x ",").map fun p => numV p.cps.toList) else none := rfl
    generalize Txt.split x "," = ps at S1 g1 hp erd ⊢
    generalize upd H L (.lst (ps.map V.str)) = H1 at S1 g1 ⊢
    refine ⟨_, rfl, L, _, rfl, .inl (SqL.of g1), rfl, !decide (ps.length = 4), ?_, ?_⟩
    · congr 2
      rw [List.length_map]
      refine decide_eq_decide.mpr ⟨fun h => ?_, fun h => by rw [h]; rfl⟩
      injection h with h
      omega
    by_cases h4 : ps.length = 4
    · rw [decide_eq_true h4]
      refine ⟨_, rfl, L, rfl, ⟨_, SqL.of g1⟩, ?_⟩
      refine compL (K := K) (a := L) (xs := ps.map V.str) (fun n ys H' => Same H1 H' ∧ ys = ((ps.take n).map fun p => numB p.cps.toList).map V.bl) ⟨Same.refl _, rfl⟩ (fun n ys H' hk z => by rw [z.2, List.length_map, List.length_map, List.length_take]; omega) (line4 (by rw [List.length_map, h4]; decide)) (fun n ys H' hk z => SqL.of (z.1 _ _ g1)) (fun n v ys H' hv z => ?_) (fun ys H' z l hl' => ?_)
      · obtain ⟨z1, rfl⟩ := z
        rw [List.getElem?_map] at hv
        obtain ⟨i, hi', rfl⟩ := Option.map_eq_some_iff.mp hv
        have hn : n < ps.length := (List.getElem?_eq_some_iff.mp hi').1
        have hpi := hp i (List.mem_of_getElem? hi')
        refine ⟨_, rfl, i.cps.toList, (by rw [txt_cps]; rfl), (by have : i.cps.toList.length = i.length := rfl; omega), Nx.mk (by rw [List.length_map]; exact hn) ⟨z1, ?_⟩⟩
        rw [List.take_add_one, hi', List.map_append, List.map_append]; rfl
      · obtain ⟨z1, rfl⟩ := z
        rw [List.length_map, List.take_length]
        have S2 := z1.trans (same_new hl' (.lst ((ps.map fun p => numB p.cps.toList).map V.bl)))
        refine ⟨l, ps.map fun p => numB p.cps.toList, rfl, SqL.of upd_same, _, rfl, ?_⟩
        generalize upd H' l (.lst ((ps.map fun p => numB p.cps.toList).map V.bl)) = H2 at S2 ⊢
        have ea : (ps.map fun p => numB p.cps.toList).all id = ps.all fun p => numB p.cps.toList := by rw [List.all_map]; rfl
        rw [ea]
        cases hall : ps.all fun p => numB p.cps.toList with
        | false =>
          refine ⟨line4 (by show 1 ≤ 1000000; decide), qE ?_ _ (S1.trans S2)⟩
          rw [erd, if_neg fun z => by rw [hall] at z; cases z.2]
        | true =>
          have g2 := S2 _ _ g1
          refine ⟨_, rfl, L, rfl, ⟨_, SqL.of g2⟩, ?_⟩
          refine compL (K := K) (a := L) (xs := ps.map V.str) (fun n ys H' => Same H2 H' ∧ ys = ((ps.take n).map fun p => numV p.cps.toList).map V.int) ⟨Same.refl _, rfl⟩ (fun n ys H' hk z => by rw [z.2, List.length_map, List.length_map, List.length_take]; omega) (line4 (by rw [List.length_map, h4]; decide)) (fun n ys H' hk z => SqL.of (z.1 _ _ g2)) (fun n v ys H' hv z => ?_) (fun ys H' z l hl' => ?_)
          · obtain ⟨z1, rfl⟩ := z
            rw [List.getElem?_map] at hv
            obtain ⟨i, hi', rfl⟩ := Option.map_eq_some_iff.mp hv
            have hn : n < ps.length := (List.getElem?_eq_some_iff.mp hi').1
            have ns := num_some (List.all_eq_true.mp hall i (List.mem_of_getElem? hi'))
            rw [txt_cps] at ns
            refine ⟨_, rfl, i, numV i.cps.toList, rfl, ns.1, (by have h5 := ns.2; have : i.cps.toList.length = i.length := rfl; omega), Nx.mk (by rw [List.length_map]; exact hn) ⟨z1, ?_⟩⟩
            rw [List.take_add_one, hi', List.map_append, List.map_append]; rfl
          · obtain ⟨z1, rfl⟩ := z
            rw [List.length_map, List.take_length]
            refine ⟨l, _, rfl, .inl ⟨SqL.of upd_same, fun p np => ?_⟩⟩
            exact q _ (by rw [erd, if_pos ⟨h4, hall⟩]) p _ (S1.trans (S2.trans (z1.trans ((same_new hl' _).trans (same_new np _))))) upd_same
    · rw [decide_eq_false h4]
      refine ⟨line4 (by show 1 ≤ 1000000; decide), qE ?_ _ S1⟩
      rw [erd, if_neg fun z => h4 z.1]
end
end K3
end
section
set_option Elab.async false
set_option linter.all false
set_option maxRecDepth 100000
set_option maxHeartbeats 4000000
namespace K3
open PySem PySem.Spec PyProof.Rows L2
section
variable {P : Program} {w : World} {K : PySem.W.Frag} {mg : Str → Option Value} {base : Heap}
theorem ok_as {x : Str} (h : As x) : PyData.strOk x = true := by
  unfold PyData.strOk
  rw [← Array.all_toList, List.all_eq_true]
  intro c hc
  exact decide_eq_true (Nat.lt_trans (h c hc) (by decide))
theorem DatAll.strs {H : Hp} : ∀ xs : List Str, DatAll K H (xs.map V.str) (xs.map PyData.str)
  | [] => .nil
  | x :: r => .cons (.str x) (DatAll.strs r)
theorem eqv_nil : ∀ xs : List Str, PyData.eqv (.list (xs.map PyData.str)) (.list []) = xs.isEmpty
  | [] => rfl
  | _ :: _ => rfl
theorem lay_strs : ∀ xs : List Str, (∀ x ∈ xs, PyData.strOk x = true) → PyData.canLayAll0 (xs.map PyData.str) = true
  | [], _ => rfl
  | x :: r, h => by
    show (PyData.strOk x && PyData.canLayAll0 (r.map PyData.str)) = true
    rw [h x List.mem_cons_self, lay_strs r fun y hy => h y (List.mem_cons_of_mem _ hy)]; rfl
theorem depth_strs : ∀ xs : List Str, PyData.depthAll (xs.map PyData.str) = 0
  | [] => rfl
  | x :: r => by
    show max 0 (PyData.depthAll (r.map PyData.str)) = 0
    rw [depth_strs r]; rfl
theorem depth_strs' (xs : List Str) : (PyData.list (xs.map PyData.str)).depth ≤ 60 := by
  have e : (PyData.list (xs.map PyData.str)).depth = PyData.depthAll (xs.map PyData.str) + 1 := by simp [PyData.depth]
  rw [e, depth_strs]; decide
def numR (cs : List Nat) : V := if numB cs = true then .int (numV cs) else .non
def spFi : Sp := fun vs H Q _ => ∃ cs, vs = [.str (txt cs)] ∧ (∀ c ∈ cs, c < 128) ∧ cs.length ≤ 100000 ∧ ∀ H', Same H H' → Q (numR cs) H'
theorem sc_fi : FnScope ["word", "figures", "strange"] ["word"] (defScope (top 24)) := ⟨rfl, rfl, rfl, by decide +kernel, rfl, by decide +kernel, by decide +kernel⟩
theorem ok_fi {d : DD} (D : Def K mg "_law_figures_in" (top 24) ["word"] d) (b_len : mg "len" = none) (b_int : mg "int" = none) : FnOk P w K mg base CX0 1 d.f d.fd ["word"] spFi := by
  refine D.fn.ok sc_fi (fun vs H Q E h => ?_) (fun cdv A outer s H vs Q E hr h => ?_)
  · obtain ⟨cs, rfl, _⟩ := h
    rfl
  obtain ⟨cs, rfl, hA, hl, q⟩ := h
  have hc := hr.calm
  have nd := sc_fi.nd
  have big : ∀ n : Nat, n ≤ 100000 → n ≤ sizeLine := fun n h => line4 (by omega)
  have hn : ∀ x : List Nat, (txt x).length = x.length := fun x => by show x.toArray.size = _; simp
  refine ⟨_, (@pss_cons _ _ _ _ _ (@ps_set _ _ (1) _ _ _ _ nd rfl (Or.inl rfl) (@pe_slice _ _ _ _ _ _ _ _ _ _ sl_str (pv 0) (@po_some _ _ _ (@pe_callTy _ _ _ _ _ _ _ _ _ call_int1 rfl b_int bt_int (@pa_cons _ _ _ _ _ (@pe_cmpR _ _ _ _ _ _ _ _ op_eq (@pe_slice _ _ _ _ _ _ _ _ _ _ sl_str (pv 0) (@po_none _) (@po_some _ _ _ (@pe_int _ _ _ _))) (@pe_str _ _ _ _) (nomark _)) (@pa_nil _) (by rfl)) (by decide) (by decide) (by rfl) (by rfl))) (@po_none _)) (by rfl) (by first | exact .inl rfl | exact .inr rfl | assumption)) (@pss_cons _ _ _ _ _ (@ps_if _ _ _ _ _ _ _ _ (@PW.pt _ _ _ (@pw_or _ _ _ _ _ _ _ (@pt_cmpR _ _ _ _ _ _ _ _ op_lt (@pe_callB _ _ _ _ _ _ _ _ _ call_len_str rfl b_len bt_len (@pa_cons _ _ _ _ _ (pv 1) (@pa_nil _) st_n) (by decide) (by decide) (by rfl) (by rfl)) (@pe_int _ _ _ _) (nomark _)) (@pw_or _ _ _ _ _ _ _ (@pt_cmpR _ _ _ _ _ _ _ _ op_gt (@pe_callB _ _ _ _ _ _ _ _ _ call_len_str rfl b_len bt_len (@pa_cons _ _ _ _ _ (pv 1) (@pa_nil _) st_n) (by decide) (by decide) (by rfl) (by rfl)) (@pe_int _ _ _ _) (nomark _)) (@pw_or1 _ _ _ _ (@PW.pt _ _ _ (@pw_and _ _ _ _ _ _ _ (@pt_cmpR _ _ _ _ _ _ _ _ op_eq (@pe_ix _ _ _ _ _ _ _ ix_str (pv 1) (@pe_int _ _ _ _) (fun _ _ => rfl)) (@pe_str _ _ _ _) (nomark _)) (@pw_and1 _ _ _ _ (@pt_cmpR _ _ _ _ _ _ _ _ op_ne (pv 0) (@pe_str _ _ _ _) (nomark _))))))))) (@pss_one _ _ _ (@ps_ret _ _ _ _ (@pe_non _ _ _))) (@pss_nil _)) (@pss_cons _ _ _ _ _ (@ps_comp _ _ _ _ _ _ _ _ _ _ _ _ _ _ (2) _ _ _ hc (compScope_of (ts := ["sign"]) (cap := []) (js := []) rfl rfl rfl rfl rfl rfl (by decide +kernel)) (@pi_str _ _ _ _ (pv 1)) (fun _ _ _ _ => @pg_name _ _ (0) _ (show (["sign"] : List Str).Nodup by decide +kernel) rfl (Or.inl rfl) (.inr rfl)) (fun _ _ _ _ => @pts_one _ _ _ (@pt_cmpR _ _ _ _ _ _ _ _ op_notin_str (pv 0) (@pe_str _ _ _ _) rfl)) (fun _ _ _ _ => (pv 0)) nd rfl (Or.inl rfl) rfl (by intro _; rfl) (by first | exact .inl rfl | exact .inr rfl | assumption)) (@pss_one _ _ _ (@ps_ret _ _ _ _ (@pe_ifExp _ _ _ _ _ _ _ _ (@pt_cmpR _ _ _ _ _ _ _ _ (op_neD hr.units) (pv 2) (@pe_lst _ _ _ _ (@pa_nil _)) (nomark _)) (@pe_non _ _ _) (@pe_callTy _ _ _ _ _ _ _ _ _ call_intS rfl b_int bt_int (@pa_cons _ _ _ _ _ (pv 0) (@pa_nil _) st_n) (by decide) (by decide) (by rfl) (by rfl)))))))), ?_⟩
  refine ⟨_, rfl, _, rfl, _, rfl, txt cs, rfl, big _ (by rw [hn]; omega), ?_⟩
  have e1 : Txt.slice (txt cs) none (some 1) = txt (cs.take 1) := slice_take cs 1
  rw [e1]
  have e2 : Txt.slice (txt cs) (some (if decide (V.str (txt (cs.take 1)) = V.str "-") = true then 1 else 0)) none = txt (fg cs) := by
    rw [e_minus, txt_eq]
    unfold fg
    by_cases h : cs.take 1 = [45]
    · rw [decide_eq_true h, if_pos rfl, if_pos h]; exact slice_from cs 1
    · rw [decide_eq_false h, if_neg (by decide), if_neg h]; exact slice_from cs 0
  refine ⟨rfl, .inr ⟨_, rfl, _, rfl, txt cs, rfl, big _ (by rw [hn]; omega), ?_⟩⟩
  rw [e2]
  have fl : (fg cs).length ≤ cs.length := by unfold fg; rw [List.length_drop]; omega
  have fA : ∀ c ∈ fg cs, c < 128 := fun c h => hA c (List.mem_of_mem_drop h)
  have nl := num_law cs
  have q0 : numB cs = false → ∀ H', Same H H' → Q .non H' := fun h H' S => by have := q H' S; unfold numR at this; rw [h] at this; exact this
  have q1 : numB cs = true → ∀ H', Same H H' → Q (.int (numV cs)) H' := fun h H' S => by have := q H' S; unfold numR at this; rw [h] at this; exact this
  have big1 : (txt (fg cs)).length ≤ sizeLine := big _ (by rw [hn]; omega)
  refine ⟨_, rfl, txt (fg cs), rfl, big1, _, _, rfl, rfl, decide ((((txt (fg cs)).length : Nat) : Int) < 1), rfl, ?_⟩
  rw [hn]
  by_cases h1 : (((fg cs).length : Nat) : Int) < 1
  · rw [decide_eq_true h1]
    refine q0 ?_ H (Same.refl _)
    rw [nl, decide_eq_false (by omega)]; rfl
  rw [decide_eq_false h1]
  refine ⟨_, rfl, txt (fg cs), rfl, big1, _, _, rfl, rfl, decide ((200 : Int) < (((txt (fg cs)).length : Nat) : Int)), rfl, ?_⟩
  rw [hn]
  by_cases h2 : (200 : Int) < (((fg cs).length : Nat) : Int)
  · rw [decide_eq_true h2]
    refine q0 ?_ H (Same.refl _)
    rw [nl, decide_eq_false (by omega)]; rfl
  rw [decide_eq_false h2]
  obtain ⟨c0, r0, ef⟩ : ∃ c0 r0, fg cs = c0 :: r0 := by
    cases h : fg cs with
    | nil => rw [h] at h1; exact absurd (by decide) h1
    | cons a r => exact ⟨a, r, rfl⟩
  have hh : (1 ≤ (fg cs).length ∧ (fg cs).length ≤ 200) := by omega
  rw [decide_eq_true hh, Bool.true_and] at nl
  have tk : ((fg cs).take 1 = [48]) ↔ (c0 = 48) := by rw [ef]; simp
  refine ⟨_, rfl, txt (fg cs), 0, c0, rfl, rfl, big1, (by show atI (fg cs) 0 = some c0; rw [ef]; exact atI_nat (j := 0) rfl), rfl, decide (c0 = 48), (by rw [e_zero]; congr 1; exact decide_eq_decide.mpr ⟨fun h => by injection h with h; injection h with h; injection h with h; injection h, fun h => by rw [h]⟩), ?_⟩
  by_cases h3 : c0 = 48
  · rw [decide_eq_true h3]
    refine ⟨_, rfl, rfl, !decide (cs = [48]), (by rw [e_zero', txt_eq]), ?_⟩
    cases h5 : decide (cs = [48]) with
    | false =>
      refine q0 ?_ H (Same.refl _)
      rw [nl, decide_eq_true (tk.mpr h3), h5]; rfl
    | true =>
      have hq : numB cs = (fg cs).all dg := by rw [nl, h5]; simp
      refine ⟨_, rfl, txt (fg cs), rfl, (by rw [← Array.all_toList, List.all_eq_true]; exact fun c h => decide_eq_true (fA c h)), ?_⟩
      refine compS (z := txt (fg cs)) (fun n ys H' => Same H H' ∧ ys = ((((fg cs).take n).filter fun c => !dg c).map fun c => (⟨#[c]⟩ : Str)).map V.str) ⟨Same.refl _, rfl⟩ (fun n ys H' hk z => by rw [z.2, List.length_map, List.length_map]; exact Nat.le_trans (List.length_filter_le _ _) (by rw [List.length_take]; omega)) big1 (fun n c ys H' hv z => ?_) (fun ys H' z l hl' => ?_)
      · obtain ⟨z1, rfl⟩ := z
        have hv' : (fg cs)[n]? = some c := by
          have : (txt (fg cs)).cps[n]? = (fg cs)[n]? := by show (fg cs).toArray[n]? = _; simp
          rw [← this]; exact hv
        have hi : n < (txt (fg cs)).cps.size := (Array.getElem?_eq_some_iff.mp hv).1
        refine ⟨_, rfl, ⟨#[c]⟩, "0123456789", rfl, rfl, !dg c, (by rw [figs_one]), ?_⟩
        cases hd : dg c with
        | true =>
          refine iteF (Nx.mk hi ⟨z1, ?_⟩)
          rw [List.take_add_one, hv', List.filter_append]
          show _ = (((_ ++ List.filter (fun c => !dg c) [c]).map _).map V.str)
          rw [List.filter_cons, hd]; simp
        | false =>
          refine ⟨_, rfl, Nx.mk hi ⟨z1, ?_⟩⟩
          rw [List.take_add_one, hv', List.filter_append]
          show _ = (((_ ++ List.filter (fun c => !dg c) [c]).map _).map V.str)
          rw [List.filter_cons, hd]; simp
      · obtain ⟨z1, rfl⟩ := z
        have et : (fg cs).take (txt (fg cs)).cps.size = fg cs := List.take_of_length_le (Nat.le_of_eq (hn (fg cs)).symm)
        rw [et]
        have S2 := z1.trans (same_new hl' (.lst ((((fg cs).filter fun c => !dg c).map fun c => (⟨#[c]⟩ : Str)).map V.str)))
        have gl : upd H' l (.lst ((((fg cs).filter fun c => !dg c).map fun c => (⟨#[c]⟩ : Str)).map V.str)) l = some (.lst ((((fg cs).filter fun c => !dg c).map fun c => (⟨#[c]⟩ : Str)).map V.str)) := upd_same
        generalize upd H' l (.lst ((((fg cs).filter fun c => !dg c).map fun c => (⟨#[c]⟩ : Str)).map V.str)) = H2 at S2 gl ⊢
        have hE : (((fg cs).filter fun c => !dg c).map fun c => (⟨#[c]⟩ : Str)).isEmpty = (fg cs).all dg := by
          rw [List.isEmpty_map, Bool.eq_iff_iff, List.isEmpty_iff, List.filter_eq_nil_iff, List.all_eq_true]
          exact ⟨fun h c hc => by have := h c hc; simpa using this, fun h c hc => by rw [h c hc]; decide⟩
        refine ⟨_, rfl, Nat.zero_le _, fun e1 ne1 => ?_⟩
        have S3 := same_new ne1 (.lst [])
        refine ⟨.list ((((fg cs).filter fun c => !dg c).map fun c => (⟨#[c]⟩ : Str)).map PyData.str), .list [], .lst (SqL.of (S3 _ _ gl)) (DatAll.strs _), .lst (SqL.of upd_same) .nil, lay_strs _ (fun z h => by obtain ⟨c, hc, rfl⟩ := List.mem_map.mp h; exact ok_as fun d hd => by rw [List.mem_singleton.mp hd]; exact fA c (List.mem_filter.mp hc).1), rfl, depth_strs' _, !(fg cs).all dg, (by show V.bl (!PyData.eqv _ _) = _; rw [eqv_nil, hE]), ?_⟩
        cases hall : (fg cs).all dg with
        | false => exact q0 (by rw [hq, hall]) _ (S2.trans S3)
        | true =>
          have hb : numB cs = true := by rw [hq, hall]
          have ns := num_some hb
          exact ⟨_, rfl, txt cs, numV cs, rfl, ns.1, (by rw [hn]; have := ns.2; omega), q1 hb _ (S2.trans S3)⟩
  · rw [decide_eq_false h3]
    have hq : numB cs = (fg cs).all dg := by rw [nl, decide_eq_false fun z => h3 (tk.mp z)]; simp
    refine ⟨_, rfl, txt (fg cs), rfl, (by rw [← Array.all_toList, List.all_eq_true]; exact fun c h => decide_eq_true (fA c h)), ?_⟩
    refine compS (z := txt (fg cs)) (fun n ys H' => Same H H' ∧ ys = ((((fg cs).take n).filter fun c => !dg c).map fun c => (⟨#[c]⟩ : Str)).map V.str) ⟨Same.refl _, rfl⟩ (fun n ys H' hk z => by rw [z.2, List.length_map, List.length_map]; exact Nat.le_trans (List.length_filter_le _ _) (by rw [List.length_take]; omega)) big1 (fun n c ys H' hv z => ?_) (fun ys H' z l hl' => ?_)
    · obtain ⟨z1, rfl⟩ := z
      have hv' : (fg cs)[n]? = some c := by
        have : (txt (fg cs)).cps[n]? = (fg cs)[n]? := by show (fg cs).toArray[n]? = _; simp
        rw [← this]; exact hv
      have hi : n < (txt (fg cs)).cps.size := (Array.getElem?_eq_some_iff.mp hv).1
      refine ⟨_, rfl, ⟨#[c]⟩, "0123456789", rfl, rfl, !dg c, (by rw [figs_one]), ?_⟩
      cases hd : dg c with
      | true =>
        refine iteF (Nx.mk hi ⟨z1, ?_⟩)
        rw [List.take_add_one, hv', List.filter_append]
        show _ = (((_ ++ List.filter (fun c => !dg c) [c]).map _).map V.str)
        rw [List.filter_cons, hd]; simp
      | false =>
        refine ⟨_, rfl, Nx.mk hi ⟨z1, ?_⟩⟩
        rw [List.take_add_one, hv', List.filter_append]
        show _ = (((_ ++ List.filter (fun c => !dg c) [c]).map _).map V.str)
        rw [List.filter_cons, hd]; simp
    · obtain ⟨z1, rfl⟩ := z
      have et : (fg cs).take (txt (fg cs)).cps.size = fg cs := List.take_of_length_le (Nat.le_of_eq (hn (fg cs)).symm)
      rw [et]
      have S2 := z1.trans (same_new hl' (.lst ((((fg cs).filter fun c => !dg c).map fun c => (⟨#[c]⟩ : Str)).map V.str)))
      have gl : upd H' l (.lst ((((fg cs).filter fun c => !dg c).map fun c => (⟨#[c]⟩ : Str)).map V.str)) l = some (.lst ((((fg cs).filter fun c => !dg c).map fun c => (⟨#[c]⟩ : Str)).map V.str)) := upd_same
      generalize upd H' l (.lst ((((fg cs).filter fun c => !dg c).map fun c => (⟨#[c]⟩ : Str)).map V.str)) = H2 at S2 gl ⊢
      have hE : (((fg cs).filter fun c => !dg c).map fun c => (⟨#[c]⟩ : Str)).isEmpty = (fg cs).all dg := by
        rw [List.isEmpty_map, Bool.eq_iff_iff, List.isEmpty_iff, List.filter_eq_nil_iff, List.all_eq_true]
        exact ⟨fun h c hc => by have := h c hc; simpa using this, fun h c hc => by rw [h c hc]; decide⟩
      refine ⟨_, rfl, Nat.zero_le _, fun e1 ne1 => ?_⟩
      have S3 := same_new ne1 (.lst [])
      refine ⟨.list ((((fg cs).filter fun c => !dg c).map fun c => (⟨#[c]⟩ : Str)).map PyData.str), .list [], .lst (SqL.of (S3 _ _ gl)) (DatAll.strs _), .lst (SqL.of upd_same) .nil, lay_strs _ (fun z h => by obtain ⟨c, hc, rfl⟩ := List.mem_map.mp h; exact ok_as fun d hd => by rw [List.mem_singleton.mp hd]; exact fA c (List.mem_filter.mp hc).1), rfl, depth_strs' _, !(fg cs).all dg, (by show V.bl (!PyData.eqv _ _) = _; rw [eqv_nil, hE]), ?_⟩
      cases hall : (fg cs).all dg with
      | false => exact q0 (by rw [hq, hall]) _ (S2.trans S3)
      | true =>
        have hb : numB cs = true := by rw [hq, hall]
        have ns := num_some hb
        exact ⟨_, rfl, txt cs, numV cs, rfl, ns.1, (by rw [hn]; have := ns.2; omega), q1 hb _ (S2.trans S3)⟩
theorem split_len (x y : Str) : (Txt.split x y).length ≤ x.length + 2 := by
  unfold Txt.split
  split
  · exact Nat.succ_le_succ (Nat.zero_le _)
  · split
    · exact Nat.succ_le_succ (Nat.zero_le _)
    · rw [length_partsBetween]
      have := occ_most x y (x.length + 1)
      omega
theorem numR_flat (f : Str → List Nat) : ∀ ps : List Str, (ps.map fun p => numR (f p)).all flatV = true
  | [] => rfl
  | p :: r => by
    rw [List.map_cons, List.all_cons, numR_flat f r, Bool.and_true]
    unfold numR
    split <;> rfl
theorem numR_in (f : Str → List Nat) : ∀ ps : List Str, inV .non (ps.map fun p => numR (f p)) = !(ps.all fun p => numB (f p))
  | [] => rfl
  | p :: r => by
    have ih := numR_in f r
    unfold inV at ih ⊢
    rw [List.map_cons, List.any_cons, ih, List.all_cons, Bool.not_and]
    congr 1
    unfold numR
    cases numB (f p) <;> rfl
def spLr : Sp := fun vs H Q _ => ∃ x, vs = [.str x] ∧ As x ∧ x.length ≤ 100000 ∧ (rd x = none → ∀ H', Same H H' → Q .non H') ∧ ∀ is, rd x = some is → ∀ p H', Same H H' → H' p = some (.tup (is.map V.int)) → Q (.ref p) H'
theorem sc_lr : FnScope ["text", "numbers"] ["text"] (defScope (top 25)) := ⟨rfl, rfl, rfl, by decide +kernel, rfl, by decide +kernel, by decide +kernel⟩
theorem ok_lr {df d : DD} (D_fi : Def K mg "_law_figures_in" (top 24) ["word"] df) (G_fi : FnOk P w K mg base CX0 1 df.f df.fd ["word"] spFi) (D : Def K mg "_law_read_table" (top 25) ["text"] d) (b_len : mg "len" = none) (b_tuple : mg "tuple" = none) : FnOk P w K mg base CX0 2 d.f d.fd ["text"] spLr := by
  refine D.fn.ok sc_lr (fun vs H Q E h => ?_) (fun cdv A outer s H vs Q E hr h => ?_)
  · obtain ⟨x, rfl, _⟩ := h
    rfl
  obtain ⟨x, rfl, xA, xl, qE, q⟩ := h
  have hc := hr.calm
  have nd := sc_lr.nd
  have x2 : x.length + 2 ≤ sizeLine := Nat.le_trans (show x.length + 2 ≤ 1000000 by omega) (line4 (Nat.le_refl _))
  refine ⟨_, (@pss_cons _ _ _ _ _ (@ps_comp _ _ _ _ _ _ _ _ _ _ _ _ _ _ (1) _ _ _ hc (compScope_of (ts := ["word"]) (cap := []) (js := []) rfl rfl rfl rfl rfl rfl (by decide +kernel)) (@pi_list _ _ _ _ (@pe_bm _ _ _ _ _ _ _ _ _ _ _ _ PySem.F.plainAttrs_str PySem.F.slot_str_split PySem.F.type_str_split mt_split (pv 0) (@pa_cons _ _ _ _ _ (@pe_str _ _ _ _) (@pa_nil _) st_c) (by rfl) (by rfl) (by rfl) (by rfl) (by rfl))) (fun _ _ _ _ => @pg_name _ _ (0) _ (show (["word"] : List Str).Nodup by decide +kernel) rfl (Or.inl rfl) (.inr rfl)) (fun _ _ _ _ => @pts_nil _) (fun _ _ _ _ => (@pe_call _ _ _ _ _ _ _ _ _ _ _ _ _ _ _ _ (G_fi.mono (by decide)) hr rfl D_fi.m D_fi.fn.kp D_fi.b .nil pass0 (@pa_cons _ _ _ _ _ (pv 0) (@pa_nil _) st_n) (by decide) (by rfl) (by rfl))) nd rfl (Or.inl rfl) rfl (by intro _; rfl) (by first | exact .inl rfl | exact .inr rfl | assumption)) (@pss_one _ _ _ (@ps_ret _ _ _ _ (@pe_ifExp _ _ _ _ _ _ _ _ (@PW.pt _ _ _ (@pw_or _ _ _ _ _ _ _ (@pt_cmpR _ _ _ _ _ _ _ _ op_ne (@pe_callB _ _ _ _ _ _ _ _ _ call_len_seq rfl b_len bt_len (@pa_cons _ _ _ _ _ (pv 1) (@pa_nil _) st_n) (by decide) (by decide) (by rfl) (by rfl)) (@pe_int _ _ _ _) (nomark _)) (@pw_or1 _ _ _ _ (@pt_cmpR _ _ _ _ _ _ _ _ op_in_seq (@pe_non _ _ _) (pv 1) rfl)))) (@pe_non _ _ _) (@pe_callTy _ _ _ _ _ _ _ _ _ call_tuple_of rfl b_tuple bt_tuple (@pa_cons _ _ _ _ _ (pv 1) (@pa_nil _) st_n) (by decide) (by decide) (by rfl) (by rfl)))))), ?_⟩
  refine ⟨_, rfl, rfl, x, _, rfl, rfl, rfl, x2, fun L nL => ?_⟩
  have S1 := same_new nL (.lst ((Txt.split x ",").map V.str))
  have g1 : upd H L (.lst ((Txt.split x ",").map V.str)) L = some (.lst ((Txt.split x ",").map V.str)) := upd_same
  have hp : ∀ p ∈ Txt.split x ",", p.length ≤ x.length ∧ As p := fun p h => ⟨(part_of h).1, (part_of h).2 xA⟩
  have pl : (Txt.split x ",").length ≤ 200000 := by
    have h1 := split_len x ","
    omega
  have erd : rd x = if (Txt.split x ",").length = 4 ∧ ((Txt.split x ",").all fun p => numB p.cps.toList) = true then some ((Txt.split x ",").map fun p => numV p.cps.toList) else none := rfl
  generalize Txt.split x "," = ps at S1 g1 hp erd pl ⊢
  generalize upd H L (.lst (ps.map V.str)) = H1 at S1 g1 ⊢
  refine ⟨L, rfl, ⟨_, SqL.of g1⟩, ?_⟩
  refine compL (K := K) (a := L) (xs := ps.map V.str) (fun n ys H' => Same H1 H' ∧ ys = (ps.take n).map fun p => numR p.cps.toList) ⟨Same.refl _, rfl⟩ (fun n ys H' hk z => by rw [z.2, List.length_map, List.length_take]; omega) (line4 (by rw [List.length_map]; omega)) (fun n ys H' hk z => SqL.of (z.1 _ _ g1)) (fun n v ys H' hv z => ?_) (fun ys H' z l hl' => ?_)
  · obtain ⟨z1, rfl⟩ := z
    rw [List.getElem?_map] at hv
    obtain ⟨i, hi', rfl⟩ := Option.map_eq_some_iff.mp hv
    have hn : n < ps.length := (List.getElem?_eq_some_iff.mp hi').1
    have hpi := hp i (List.mem_of_getElem? hi')
    refine ⟨_, rfl, i.cps.toList, (by rw [txt_cps]; rfl), hpi.2, (by have : i.cps.toList.length = i.length := rfl; omega), fun H2 S2 => Nx.mk (by rw [List.length_map]; exact hn) ⟨z1.trans S2, ?_⟩⟩
    rw [List.take_add_one, hi', List.map_append]; rfl
  · obtain ⟨z1, rfl⟩ := z
    rw [List.length_map, List.take_length]
    have S2 := z1.trans (same_new hl' (.lst (ps.map fun p => numR p.cps.toList)))
    have g2 : upd H' l (.lst (ps.map fun p => numR p.cps.toList)) l = some (.lst (ps.map fun p => numR p.cps.toList)) := upd_same
    generalize upd H' l (.lst (ps.map fun p => numR p.cps.toList)) = H2 at S2 g2 ⊢
    refine ⟨_, rfl, l, _, rfl, .inl (SqL.of g2), rfl, !decide (ps.length = 4), ?_, ?_⟩
    · congr 2
      rw [List.length_map]
      refine decide_eq_decide.mpr ⟨fun h => ?_, fun h => by rw [h]; rfl⟩
      injection h with h
      omega
    by_cases h4 : ps.length = 4
    · rw [decide_eq_true h4]
      refine ⟨_, rfl, l, _, rfl, .inl (SqL.of g2), rfl, numR_flat _ ps, !(ps.all fun p => numB p.cps.toList), (by rw [← numR_in _ ps]; rfl), ?_⟩
      cases hall : ps.all fun p => numB p.cps.toList with
      | false => exact qE (by rw [erd, if_neg fun z => by rw [hall] at z; cases z.2]) _ (S1.trans S2)
      | true =>
        have em : (ps.map fun p => numR p.cps.toList) = (ps.map fun p => numV p.cps.toList).map V.int := by
          rw [List.map_map]
          refine List.map_congr_left fun p hpm => ?_
          show numR p.cps.toList = V.int (numV p.cps.toList)
          unfold numR
          rw [if_pos (List.all_eq_true.mp hall p hpm)]
        rw [em] at g2
        refine ⟨_, rfl, l, _, rfl, .inl ⟨SqL.of g2, fun p np => ?_⟩⟩
        exact q _ (by rw [erd, if_pos ⟨h4, hall⟩]) p _ (S1.trans (S2.trans (same_new np _))) upd_same
    · rw [decide_eq_false h4]
      exact qE (by rw [erd, if_neg fun z => h4 z.1]) _ (S1.trans S2)
def rStrI : List V → Hp → VK → Prop := fun xs H Q => ∃ i, xs = [.int i] ∧ i.natAbs.log2 < 1920 ∧ Q (.str (toString i)) H
theorem call_strI {X : Cx} : CallR X (.type "str") rStrI := call_str_int
theorem sc_sh : FnScope ["table"] ["table"] (defScope (top 31)) := ⟨rfl, rfl, rfl, by decide +kernel, rfl, by decide +kernel, by decide +kernel⟩
theorem ok_sh {d : DD} (D : Def K mg "_law_shown" (top 31) ["table"] d) (b_str : mg "str" = none) : FnOk P w K mg base CX0 3 d.f d.fd ["table"] (spTt K) := by
  refine D.fn.ok sc_sh (fun vs H Q E h => ?_) (fun cdv A outer s H vs Q E hr h => ?_)
  · obtain ⟨a, is, rfl, _⟩ := h
    rfl
  obtain ⟨a, is, rfl, ha, hl, hi, q⟩ := h
  have hc := hr.calm
  have nd := sc_sh.nd
  refine ⟨_, (@pss_one _ _ _ (@ps_ret _ _ _ _ (@pe_bm _ _ _ _ _ _ _ _ _ _ _ _ PySem.F.plainAttrs_str PySem.F.slot_str_join PySem.F.type_str_join mt_join (@pe_str _ _ _ _) (@pa_cons _ _ _ _ _ (@pe_comp _ _ _ _ _ _ _ _ _ _ _ _ _ _ hc (compScope_of (ts := ["number"]) (cap := []) (js := []) rfl rfl rfl rfl rfl rfl (by decide +kernel)) (@pi_tup _ _ _ _ (pv 0)) (fun _ _ _ _ => @pg_name _ _ (0) _ (show (["number"] : List Str).Nodup by decide +kernel) rfl (Or.inl rfl) (.inr rfl)) (fun _ _ _ _ => @pts_nil _) (fun _ _ _ _ => (@pe_callTy _ _ _ _ _ _ _ _ _ (show CallR _ _ rStrI from call_strI) rfl b_str bt_str (@pa_cons _ _ _ _ _ (pv 0) (@pa_nil _) st_n) (by decide) (by decide) (by rfl) (by rfl))) (by intro _; rfl)) (@pa_nil _) (by rfl)) (by rfl) (by rfl) (by rfl) (by rfl) (by rfl)))), ?_⟩
  refine ⟨rfl, _, rfl, a, rfl, ⟨_, SqT.of ha⟩, ?_⟩
  refine compT (K := K) (a := a) (xs := is.map V.int) (fun n ys H' => Same H H' ∧ ys = (is.take n).map fun i => V.str (txt (shown i))) ⟨Same.refl _, rfl⟩ (fun n ys H' hk z => by rw [z.2, List.length_map, List.length_take]; omega) (line4 (by rw [List.length_map, hl]; decide)) (fun n ys H' hk z => SqT.of (z.1 _ _ ha)) (fun n v ys H' hv z => ?_) (fun ys H' z l hl' => ?_)
  · obtain ⟨z1, rfl⟩ := z
    rw [List.getElem?_map] at hv
    obtain ⟨i, hi', rfl⟩ := Option.map_eq_some_iff.mp hv
    have hn : n < is.length := (List.getElem?_eq_some_iff.mp hi').1
    have lg : i.natAbs.log2 < 1920 := log2_of (n := i.natAbs) (hi i (List.mem_of_getElem? hi'))
    refine ⟨_, rfl, i, rfl, lg, Nx.mk (by rw [List.length_map]; exact hn) ⟨z1, ?_⟩⟩
    rw [List.take_add_one, hi', List.map_append, str_int]; rfl
  · obtain ⟨z1, rfl⟩ := z
    rw [List.length_map, List.take_length] at *
    have sz := sum_len is hi
    have e2 : (is.map fun i => V.str (txt (shown i))) = (is.map fun i => txt (shown i)).map V.str := by rw [List.map_map]; rfl
    refine ⟨",", l, is.map fun i => txt (shown i), rfl, rfl, (by rw [← e2]; exact SqL.of upd_same), ?_, q _ (z1.trans (same_new hl' _))⟩
    rw [List.length_map, hl] at *
    have : (("," : Str).length) = 1 := rfl
    rw [this]; omega
end
end K3
end
section
set_option Elab.async false
set_option linter.all false
set_option maxRecDepth 100000
set_option maxHeartbeats 4000000
namespace K3
open PySem PySem.Spec PyProof.Rows L2
section
variable {P : Program} {w : World} {K : PySem.W.Frag} {mg : Str → Option Value} {base : Heap}
theorem joined_NoText : Txt.join "" (pk kNames [false, false, false, false, false, false, true, false, false, false, false, true]) = "NoText+" := by decide +kernel
def RdR (v : V) (H : Hp) (r : V) (x : Str) : Prop := (rdV v = none ∧ r = .non ∧ x = "NoText+") ∨ ∃ is p, rdV v = some is ∧ r = .ref p ∧ x = "" ∧ H p = some (.tup (is.map V.int))
def spTold : Sp := fun vs H Q _ => ∃ v, vs = [v] ∧ Kn H v ∧ (∀ x, v = .str x → As x ∧ x.length ≤ 100000) ∧ ∀ l r (x : Str) H', Same H H' → H' l = some (.tup [r, .str x]) → RdR v H' r x → Q (.ref l) H'
theorem sc_told : FnScope ["thing", "found", "kind", "e"] ["thing"] (defScope (top 33)) := ⟨rfl, rfl, rfl, by decide +kernel, rfl, by decide +kernel, by decide +kernel⟩
theorem ok_told {dt dk d : DD} {cl : List Addr} {qe C1 : Addr} (m_QuadError : mg "QuadError" = some (.ref qe)) (k_QuadError : PySem.W.excIn K qe bmVE "ValueError.__new__" = true) (E1 : Err1 K cl qe C1 6) (D_read : Def K mg "read_table" (top 21) ["text"] dt) (G_read : FnOk P w K mg base (CXe P w) 3 dt.f dt.fd ["text"] (spRead C1)) (D_kind : Def K mg "_law_kind" (top 23) ["e"] dk) (G_kind : FnX P w K mg base 1 dk.f dk.fd ["e"] (spKind K cl)) (D : Def K mg "_law_told" (top 33) ["thing"] d) : FnOk P w K mg base CX0 4 d.f d.fd ["thing"] spTold := by
  refine D.fn.ok sc_told (fun vs H Q E h => ?_) (fun cdv A outer s H vs Q E hr h => ?_)
  · obtain ⟨v, rfl, _⟩ := h
    rfl
  obtain ⟨v, rfl, kn, hA, q⟩ := h
  have hc := hr.calm
  have nd := sc_told.nd
  refine ⟨_, (@pss_cons _ _ _ _ _ (@ps_set _ _ (1) _ _ _ _ nd rfl (Or.inl rfl) (@pe_non _ _ _) (by rfl) (by first | exact .inl rfl | exact .inr rfl | assumption)) (@pss_cons _ _ _ _ _ (@ps_set _ _ (2) _ _ _ _ nd rfl (Or.inl rfl) (@pe_str _ _ _ _) (by rfl) (by first | exact .inl rfl | exact .inr rfl | assumption)) (@pss_cons _ _ _ _ _ (@ps_try _ (3) _ _ _ _ _ _ _ _ _ _ _ rfl rfl nd rfl rfl rfl m_QuadError k_QuadError (fun _ _ => (@pss_one _ _ _ (@ps_set _ _ (1) _ _ _ _ nd rfl (Or.inl rfl) (@pe_callX _ _ _ _ _ _ _ _ _ _ _ _ _ (G_read.mono (by decide)) hr rfl D_read.m D_read.fn.kp D_read.b xok_try (@pa_cons _ _ _ _ _ (pv 0) (@pa_nil _) st_n) (by decide) (by rfl) (by rfl)) (by rfl) (by first | exact .inl rfl | exact .inr rfl | assumption)))) (fun _ => (@pss_one _ _ _ (@ps_set _ _ (2) _ _ _ _ nd rfl (Or.inl rfl) (@pe_callH _ _ _ _ _ _ _ _ _ _ _ _ _ G_kind (Room.hand (hr.mono (by decide)) _) rfl D_kind.m D_kind.fn.kp D_kind.b (@pa_cons _ _ _ _ _ (pv 3) (@pa_nil _) st_n) (by decide) (by rfl) (by rfl)) (by rfl) (by first | exact .inl rfl | exact .inr rfl | assumption)))) (by decide)) (@pss_one _ _ _ (@ps_ret _ _ _ _ (@pe_tup _ _ _ _ _ (@pa_cons _ _ _ _ _ (pv 1) (@pa_cons _ _ _ _ _ (pv 2) (@pa_nil _) st_n) st_n))))))), ?_⟩
  refine ⟨fun cls σ' H' => (cls = .ref C1 ∧ rdV v = none) ∧ σ' = [some v, some .non, some (.str ""), none] ∧ Same H H', ?_, ?_⟩
  · refine ⟨_, rfl, v, rfl, kn, hA, fun hv H' S => ⟨⟨rfl, hv⟩, rfl, S⟩, fun is hv p H' S gp => ?_⟩
    refine ⟨_, rfl, _, rfl, line4 (by show 2 ≤ 1000000; decide), fun l nl => ?_⟩
    exact q l _ "" _ (S.trans (same_new nl _)) upd_same (.inr ⟨is, p, hv, rfl, rfl, (same_new nl _) _ _ gp⟩)
  · rintro cls σ' H' x ⟨⟨rfl, hp⟩, rfl, S⟩ hx
    refine ⟨C1, rfl, E1.kx, E1.sub, ?_⟩
    refine ⟨_, rfl, _, false, false, false, false, false, false, true, false, false, false, false, true, rfl, upd_same, E1.ex, E1.o0, E1.o1, E1.o2, E1.o3, E1.o4, E1.o5, E1.o6, E1.o7, E1.o8, E1.o9, E1.o10, E1.o11, fun H2 S2 => ?_⟩
    rw [joined_NoText]
    refine ⟨_, rfl, _, rfl, line4 (by show 2 ≤ 1000000; decide), fun l hl => ?_⟩
    exact q l .non "NoText+" _ (S.trans ((same_new hx _).trans (S2.trans (same_new hl _)))) upd_same (.inl ⟨hp, rfl, rfl⟩)
theorem ne_d (d : PyData) (h : d.canLay0 = true) : V.bl (if true = true then !PyData.eqv d d else PyData.eqv d d) = .bl false := by
  rw [SeqAt.eqv_refl d h]; rfl
theorem depth_ints : ∀ xs : List Int, PyData.depthAll (xs.map PyData.int) = 0
  | [] => rfl
  | x :: r => by
    show max 0 (PyData.depthAll (r.map PyData.int)) = 0
    rw [depth_ints r]; rfl
theorem depth_ints' (xs : List Int) : (PyData.tuple (xs.map PyData.int)).depth ≤ 60 := by
  have e : (PyData.tuple (xs.map PyData.int)).depth = PyData.depthAll (xs.map PyData.int) + 1 := by simp [PyData.depth]
  rw [e, depth_ints]; decide
theorem rd_len {x : Str} {is : List Int} (h : rd x = some is) : is.length = 4 := by
  unfold rd at h
  split at h
  · rename_i c
    injection h with h
    rw [← h, List.length_map]; exact c.1
  · cases h
def spRight : Sp := fun vs H Q _ => ∃ v, vs = [v] ∧ Kn H v ∧ (∀ x, v = .str x → As x ∧ x.length ≤ 100000) ∧ ∀ H', Same H H' → Q (.bl true) H'
theorem sc_right : FnScope ["thing", "due", "found", "kind"] ["thing"] (defScope (top 34)) := ⟨rfl, rfl, rfl, by decide +kernel, rfl, by decide +kernel, by decide +kernel⟩
theorem ok_right {dl dt dw d : DD} (D_lr : Def K mg "_law_read_table" (top 25) ["text"] dl) (G_lr : FnOk P w K mg base CX0 2 dl.f dl.fd ["text"] spLr) (D_told : Def K mg "_law_told" (top 33) ["thing"] dt) (G_told : FnOk P w K mg base CX0 4 dt.f dt.fd ["thing"] spTold) (D_lwh : Def K mg "_law_whole" (top 26) ["found"] dw) (G_lwh : FnOk P w K mg base CX0 1 dw.f dw.fd ["found"] spWhole) (D : Def K mg "_law_right" (top 34) ["thing"] d) (b_str : mg "str" = none) (b_tuple : mg "tuple" = none) (b_isinstance : mg "isinstance" = none) : FnOk P w K mg base CX0 5 d.f d.fd ["thing"] spRight := by
  refine D.fn.ok sc_right (fun vs H Q E h => ?_) (fun cdv A outer s H vs Q E hr h => ?_)
  · obtain ⟨v, rfl, _⟩ := h
    rfl
  obtain ⟨v, rfl, kn, hA, q⟩ := h
  have hc := hr.calm
  have nd := sc_right.nd
  refine ⟨_, (@pss_cons _ _ _ _ _ (@ps_set _ _ (1) _ _ _ _ nd rfl (Or.inl rfl) (@pe_ifExp _ _ _ _ _ _ _ _ (@pt_val _ _ _ (@pe_callB _ _ _ _ _ _ _ _ _ call_isT rfl b_isinstance bt_isinstance (@pa_cons _ _ _ _ _ (pv 0) (@pa_cons _ _ _ _ _ (@pe_bltn _ _ (.ty "str") _ _ rfl b_str bt_str rfl (by decide) (by decide)) (@pa_nil _) st_n) st_n) (by decide) (by decide) (by rfl) (by rfl)) (by intro _; rfl)) (@pe_call _ _ _ _ _ _ _ _ _ _ _ _ _ _ _ _ (G_lr.mono (by decide)) hr rfl D_lr.m D_lr.fn.kp D_lr.b .nil pass0 (@pa_cons _ _ _ _ _ (pv 0) (@pa_nil _) st_n) (by decide) (by rfl) (by rfl)) (@pe_non _ _ _)) (by rfl) (by first | exact .inl rfl | exact .inr rfl | assumption)) (@pss_cons _ _ _ _ _ (@ps_asg _ _ _ _ _ _ (@pe_call _ _ _ _ _ _ _ _ _ _ _ _ _ _ _ _ (G_told.mono (by decide)) hr rfl D_told.m D_told.fn.kp D_told.b .nil pass0 (@pa_cons _ _ _ _ _ (pv 0) (@pa_nil _) st_n) (by decide) (by rfl) (by rfl)) (@pg_tup _ _ _ _ _ _ hc (@pgs_cons _ _ _ _ _ (@pg_name _ _ (2) _ nd rfl (Or.inl rfl) (by first | exact .inl rfl | exact .inr rfl | assumption)) (@pgs_cons _ _ _ _ _ (@pg_name _ _ (3) _ nd rfl (Or.inl rfl) (by first | exact .inl rfl | exact .inr rfl | assumption)) (@pgs_nil _) (by rfl)) (by rfl)) (by rfl) (by rfl)) (by rfl) (by rfl) (by rfl)) (@pss_cons _ _ _ _ _ (@ps_if _ _ _ _ _ _ _ _ (@pt_cmpR _ _ _ _ _ _ _ _ op_isN (pv 1) (@pe_non _ _ _) (nomark _)) (@pss_one _ _ _ (@ps_ret _ _ _ _ (@pe_and _ _ _ _ _ _ _ (@pe_cmpR _ _ _ _ _ _ _ _ op_isN (pv 2) (@pe_non _ _ _) (nomark _)) (@pe_one _ _ _ _ _ (@pe_cmpR _ _ _ _ _ _ _ _ op_eq (pv 3) (@pe_str _ _ _ _) (nomark _)))))) (@pss_nil _)) (@pss_cons _ _ _ _ _ (@ps_if _ _ _ _ _ _ _ _ (@PW.pt _ _ _ (@pw_or _ _ _ _ _ _ _ (@pt_cmpR _ _ _ _ _ _ _ _ op_ne (pv 3) (@pe_str _ _ _ _) (nomark _)) (@pw_or _ _ _ _ _ _ _ (@pt_not _ _ _ _ (@pt_val _ _ _ (@pe_callB _ _ _ _ _ _ _ _ _ call_isTup rfl b_isinstance bt_isinstance (@pa_cons _ _ _ _ _ (pv 2) (@pa_cons _ _ _ _ _ (@pe_bltn _ _ (.ty "tuple") _ _ rfl b_tuple bt_tuple rfl (by decide) (by decide)) (@pa_nil _) st_n) st_n) (by decide) (by decide) (by rfl) (by rfl)) (by intro _; rfl))) (@pw_or1 _ _ _ _ (@pt_cmpR _ _ _ _ _ _ _ _ (op_neD hr.units) (pv 2) (pv 1) (nomark _)))))) (@pss_one _ _ _ (@ps_ret _ _ _ _ (@pe_bl _ _ _ _))) (@pss_nil _)) (@pss_one _ _ _ (@ps_ret _ _ _ _ (@pe_cmpR _ _ _ _ _ _ _ _ op_notIn_seq (@pe_bl _ _ _ _) (@pe_comp _ _ _ _ _ _ _ _ _ _ _ _ _ _ hc (compScope_of (ts := ["number"]) (cap := []) (js := []) rfl rfl rfl rfl rfl rfl (by decide +kernel)) (@pi_tup _ _ _ _ (pv 2)) (fun _ _ _ _ => @pg_name _ _ (0) _ (show (["number"] : List Str).Nodup by decide +kernel) rfl (Or.inl rfl) (.inr rfl)) (fun _ _ _ _ => @pts_nil _) (fun _ _ _ _ => (@pe_call _ _ _ _ _ _ _ _ _ _ _ _ _ _ _ _ (G_lwh.mono (by decide)) hr rfl D_lwh.m D_lwh.fn.kp D_lwh.b .nil pass0 (@pa_cons _ _ _ _ _ (pv 0) (@pa_nil _) st_n) (by decide) (by rfl) (by rfl))) (by intro _; rfl)) rfl))))))), ?_⟩
  obtain ⟨t1, y1, e1⟩ := as_str (K := K) kn
  refine ⟨v, rfl, v, .ty "str", t1, _, _, rfl, rfl, y1, e1, _, rfl, ?_⟩
  cases hs : isS v with
  | false =>
    have hv : rdV v = none := by cases v <;> first | rfl | (cases hs)
    have S1 : Same H H := Same.refl _
    refine ⟨_, rfl, v, rfl, kn.mono S1, hA, fun l r x H2 S2 gl hR => ?_⟩
    rcases hR with ⟨_, rfl, rfl⟩ | ⟨is, p, z, _⟩
    · refine ⟨l, _, rfl, SqT.of gl, rfl, _, _, rfl, _, _, rfl, rfl, ?_⟩
      refine ⟨_, rfl, rfl, true, rfl, ?_⟩
      refine ⟨_, rfl, rfl, true, rfl, ?_⟩
      refine ⟨_, rfl, rfl, ?_⟩
      rw [decide_eq_true rfl]
      exact q _ (S1.trans S2)
    · rw [hv] at z; cases z
  | true =>
    obtain ⟨x, rfl⟩ : ∃ x, v = .str x := by cases v <;> first | exact ⟨_, rfl⟩ | (cases hs)
    obtain ⟨xA, xl⟩ := hA x rfl
    generalize hvv : V.str x = v at hA kn e1 y1 hs ⊢
    have ev : rdV v = rd x := by rw [← hvv]; rfl
    refine ⟨_, rfl, x, (by rw [← hvv]; rfl), xA, xl, fun hv1 H1 S1 => ?_, fun is hv1 p1 H1 S1 g1 => ?_⟩
    · have hv : rdV v = none := by rw [ev]; exact hv1
      refine ⟨_, rfl, v, rfl, kn.mono S1, hA, fun l r x H2 S2 gl hR => ?_⟩
      rcases hR with ⟨_, rfl, rfl⟩ | ⟨is, p, z, _⟩
      · refine ⟨l, _, rfl, SqT.of gl, rfl, _, _, rfl, _, _, rfl, rfl, ?_⟩
        refine ⟨_, rfl, rfl, true, rfl, ?_⟩
        refine ⟨_, rfl, rfl, true, rfl, ?_⟩
        refine ⟨_, rfl, rfl, ?_⟩
        rw [decide_eq_true rfl]
        exact q _ (S1.trans S2)
      · rw [hv] at z; cases z
    · refine ⟨_, rfl, v, rfl, kn.mono S1, hA, fun l r x H2 S2 gl hR => ?_⟩
      rcases hR with ⟨z, _⟩ | ⟨is2, p2, z, rfl, rfl, gp⟩
      · rw [ev, hv1] at z; cases z
      have : is2 = is := by rw [ev, hv1] at z; injection z with z; exact z.symm
      subst this
      refine ⟨l, _, rfl, SqT.of gl, rfl, _, _, rfl, _, _, rfl, rfl, ?_⟩
      refine ⟨_, rfl, rfl, false, rfl, ?_⟩
      refine ⟨_, rfl, rfl, false, (by rw [decide_eq_true rfl]; rfl), ?_⟩
      refine ⟨_, rfl, p2, _, rfl, SqT.of gp, _, rfl, ?_⟩
      have il := rd_len hv1
      refine ⟨_, rfl, _, rfl, .tuple (is2.map PyData.int), .tuple (is2.map PyData.int), .tup (SqT.of gp) (DatAll.ints _), .tup (SqT.of (S2 _ _ g1)) (DatAll.ints _), layAll_ints _, layAll_ints _, depth_ints' _, false, ne_d _ (layAll_ints _), ?_⟩
      refine ⟨_, rfl, p2, rfl, ⟨_, SqT.of gp⟩, ?_⟩
      refine compT (K := K) (a := p2) (xs := is2.map V.int) (fun n ys H' => Same H2 H' ∧ ys = List.replicate n (V.bl true)) ⟨Same.refl _, rfl⟩ (fun n ys H' hk z => by rw [z.2, List.length_replicate]; exact Nat.le_refl _) (line4 (by rw [List.length_map, il]; decide)) (fun n ys H' hk z => SqT.of (z.1 _ _ gp)) (fun n v ys H' hv z => ?_) (fun ys H' z l hl' => ?_)
      · obtain ⟨z1, rfl⟩ := z
        rw [List.getElem?_map] at hv
        obtain ⟨i, hi', rfl⟩ := Option.map_eq_some_iff.mp hv
        have hn : n < is2.length := (List.getElem?_eq_some_iff.mp hi').1
        refine ⟨_, rfl, .int i, rfl, .int i, Nx.mk (by rw [List.length_map]; exact hn) ⟨z1, ?_⟩⟩
        rw [List.replicate_succ']; rfl
      · obtain ⟨z1, rfl⟩ := z
        rw [List.length_map, il] at *
        refine ⟨l, _, rfl, .inl (SqL.of upd_same), rfl, rfl, ?_⟩
        exact q _ (S1.trans (S2.trans (z1.trans (same_new hl' _))))
end
end K3
end
section
set_option Elab.async false
set_option linter.all false
set_option maxRecDepth 100000
set_option maxHeartbeats 4000000
namespace K3
open PySem PySem.Spec PyProof.Rows L2
section
variable {P : Program} {w : World} {K : PySem.W.Frag} {mg : Str → Option Value} {base : Heap}
theorem split_sum (x y : Str) : ((Txt.split x y).map (·.length)).sum ≤ x.length := by
  unfold Txt.split
  split
  · rw [List.map_singleton, List.sum_singleton]; exact Nat.le_refl _
  · split
    · rw [List.map_singleton, List.sum_singleton]; exact Nat.le_refl _
    · have e := size_glued y (Builtin.Str.partsBetween x (Builtin.Str.occurrences x y 0 x.length (x.length + 1)) y.length)
      rw [StrLaws.glued_between_self] at e
      omega
theorem split_pos (x y : Str) : 1 ≤ (Txt.split x y).length := by
  unfold Txt.split
  split
  · exact Nat.le_refl _
  · split
    · exact Nat.le_refl _
    · rw [length_partsBetween]; exact Nat.succ_le_succ (Nat.zero_le _)
theorem fold_As {y : Str} (hy : As y) : ∀ (rest : List Str) (acc : Array Nat), (∀ c ∈ acc.toList, c < 128) → (∀ z ∈ rest, As z) → ∀ c ∈ (rest.foldl (fun acc p => acc ++ y.cps ++ p.cps) acc).toList, c < 128
  | [], acc, h, _ => h
  | p :: r, acc, h, hr => by
    refine fold_As hy r _ (fun c hc => ?_) fun z hz => hr z (List.mem_cons_of_mem _ hz)
    rw [Array.toList_append, Array.toList_append, List.mem_append, List.mem_append] at hc
    rcases hc with (hc | hc) | hc
    · exact h c hc
    · exact hy c hc
    · exact hr p List.mem_cons_self c hc
theorem join_As {y : Str} (hy : As y) {zs : List Str} (h : ∀ z ∈ zs, As z) : As (Txt.join y zs) := by
  cases zs with
  | nil => exact fun c hc => absurd hc (by show ¬ c ∈ ([] : List Nat); simp)
  | cons a r => exact fold_As hy r a.cps (h a List.mem_cons_self) fun z hz => h z (List.mem_cons_of_mem _ hz)
theorem join_len (y : Str) (zs : List Str) : (Txt.join y zs).length = (zs.map (·.length)).sum + (zs.length - 1) * y.length := size_glued y zs
theorem sub_sum (f : Str → Nat) {a b : List Str} (h : a.Sublist b) : (a.map f).sum ≤ (b.map f).sum := by
  induction h with
  | slnil => exact Nat.le_refl _
  | cons x _ ih => rw [List.map_cons, List.sum_cons]; omega
  | cons_cons x _ ih => rw [List.map_cons, List.map_cons, List.sum_cons, List.sum_cons]; omega
theorem cut_strs (ps : List Str) (lo hi : Option Int) : ∃ qs : List Str, cutV (ps.map V.str) lo hi = qs.map V.str ∧ qs.Sublist ps := by
  unfold cutV
  rw [List.length_map]
  exact ⟨(ps.drop (HT.sIx ps.length 0 lo)).take (HT.sIx ps.length ps.length hi - HT.sIx ps.length 0 lo), by rw [List.map_take, List.map_drop], (List.take_sublist _ _).trans (List.drop_sublist _ _)⟩
theorem at_strs {ps : List Str} {r : Int} (h0 : 0 ≤ r) (h1 : r < ((ps.length : Nat) : Int)) : ∃ t, atI (ps.map V.str) r = some (V.str t) ∧ t ∈ ps := by
  obtain ⟨n, rfl⟩ := Int.eq_ofNat_of_zero_le h0
  have hl : n < ps.length := by omega
  refine ⟨ps[n], atI_nat ?_, List.getElem_mem _⟩
  rw [List.getElem?_map, List.getElem?_eq_getElem hl]; rfl
def spSpo : Sp := fun vs H Q _ => ∃ z p, vs = [.str z, .ref p] ∧ As z ∧ z.length ≤ 20000 ∧ Ds H p ∧ ∀ y H', Dr p H H' → As y → y.length ≤ 5 * z.length + 300 → Q (.str y) H'
theorem sc_spo : FnScope ["text", "draws", "words", "at", "some", "word"] ["text", "draws"] (defScope (top 35)) := ⟨rfl, rfl, rfl, by decide +kernel, rfl, by decide +kernel, by decide +kernel⟩
theorem ok_spo {dd db d : DD} (D_draw : Def K mg "_law_draw" (top 27) ["draws", "many"] dd) (G_draw : FnOk P w K mg base CX0 1 dd.f dd.fd ["draws", "many"] spDraw) (D_bent : Def K mg "_law_bent" (top 28) ["text", "draws"] db) (G_bent : FnOk P w K mg base CX0 2 db.f db.fd ["text", "draws"] spBent) (D : Def K mg "_law_spoilt" (top 35) ["text", "draws"] d) (b_len : mg "len" = none) : FnOk P w K mg base CX0 3 d.f d.fd ["text", "draws"] spSpo := by
  refine D.fn.ok sc_spo (fun vs H Q E h => ?_) (fun cdv A outer s H vs Q E hr h => ?_)
  · obtain ⟨z, p, rfl, _⟩ := h
    rfl
  obtain ⟨z, p, rfl, zA, zl, ds, q⟩ := h
  have hc := hr.calm
  have nd := sc_spo.nd
  refine ⟨_, (@pss_cons _ _ _ _ _ (@ps_if _ _ _ _ _ _ _ _ (@pt_cmpR _ _ _ _ _ _ _ _ op_eq (@pe_call _ _ _ _ _ _ _ _ _ _ _ _ _ _ _ _ (G_draw.mono (by decide)) hr rfl D_draw.m D_draw.fn.kp D_draw.b .nil pass0 (@pa_cons _ _ _ _ _ (pv 1) (@pa_cons _ _ _ _ _ (@pe_int _ _ _ _) (@pa_nil _) st_c) st_n) (by decide) (by rfl) (by rfl)) (@pe_int _ _ _ _) (nomark _)) (@pss_one _ _ _ (@ps_ret _ _ _ _ (@pe_call _ _ _ _ _ _ _ _ _ _ _ _ _ _ _ _ (G_bent.mono (by decide)) hr rfl D_bent.m D_bent.fn.kp D_bent.b .nil pass0 (@pa_cons _ _ _ _ _ (pv 0) (@pa_cons _ _ _ _ _ (pv 1) (@pa_nil _) st_n) st_n) (by decide) (by rfl) (by rfl)))) (@pss_nil _)) (@pss_cons _ _ _ _ _ (@ps_set _ _ (2) _ _ _ _ nd rfl (Or.inl rfl) (@pe_bm _ _ _ _ _ _ _ _ _ _ _ _ PySem.F.plainAttrs_str PySem.F.slot_str_split PySem.F.type_str_split mt_split (pv 0) (@pa_cons _ _ _ _ _ (@pe_str _ _ _ _) (@pa_nil _) st_c) (by rfl) (by rfl) (by rfl) (by rfl) (by rfl)) (by rfl) (by first | exact .inl rfl | exact .inr rfl | assumption)) (@pss_cons _ _ _ _ _ (@ps_set _ _ (3) _ _ _ _ nd rfl (Or.inl rfl) (@pe_call _ _ _ _ _ _ _ _ _ _ _ _ _ _ _ _ (G_draw.mono (by decide)) hr rfl D_draw.m D_draw.fn.kp D_draw.b .nil pass0 (@pa_cons _ _ _ _ _ (pv 1) (@pa_cons _ _ _ _ _ (@pe_callB _ _ _ _ _ _ _ _ _ call_len_seq rfl b_len bt_len (@pa_cons _ _ _ _ _ (pv 2) (@pa_nil _) st_n) (by decide) (by decide) (by rfl) (by rfl)) (@pa_nil _) st_f) st_n) (by decide) (by rfl) (by rfl)) (by rfl) (by first | exact .inl rfl | exact .inr rfl | assumption)) (@pss_cons _ _ _ _ _ (@ps_set _ _ (4) _ _ _ _ nd rfl (Or.inl rfl) (@pe_lst _ _ _ _ (@pa_cons _ _ _ _ _ (@pe_str _ _ _ _) (@pa_cons _ _ _ _ _ (@pe_str _ _ _ _) (@pa_cons _ _ _ _ _ (@pe_str _ _ _ _) (@pa_cons _ _ _ _ _ (@pe_str _ _ _ _) (@pa_cons _ _ _ _ _ (@pe_str _ _ _ _) (@pa_cons _ _ _ _ _ (@pe_str _ _ _ _) (@pa_cons _ _ _ _ _ (@pe_op _ _ _ _ _ _ _ _ op_mulS (@pe_str _ _ _ _) (@pe_op _ _ _ _ _ _ _ _ op_add (@pe_int _ _ _ _) (@pe_call _ _ _ _ _ _ _ _ _ _ _ _ _ _ _ _ (G_draw.mono (by decide)) hr rfl D_draw.m D_draw.fn.kp D_draw.b .nil pass0 (@pa_cons _ _ _ _ _ (pv 1) (@pa_cons _ _ _ _ _ (@pe_int _ _ _ _) (@pa_nil _) st_c) st_n) (by decide) (by rfl) (by rfl)))) (@pa_cons _ _ _ _ _ (@pe_op _ _ _ _ _ _ _ _ op_add_str (@pe_str _ _ _ _) (@pe_op _ _ _ _ _ _ _ _ op_mulS (@pe_str _ _ _ _) (@pe_int _ _ _ _))) (@pa_cons _ _ _ _ _ (@pe_ix _ _ _ _ _ _ _ ix_list (pv 2) (pv 3) (fun _ _ => rfl)) (@pa_cons _ _ _ _ _ (@pe_str _ _ _ _) (@pa_nil _) st_c) (by rfl)) (by rfl)) (by rfl)) st_c) st_c) st_c) st_c) st_c) st_c)) (by rfl) (by first | exact .inl rfl | exact .inr rfl | assumption)) (@pss_cons _ _ _ _ _ (@ps_set _ _ (5) _ _ _ _ nd rfl (Or.inl rfl) (@pe_ix _ _ _ _ _ _ _ ix_list (pv 4) (@pe_call _ _ _ _ _ _ _ _ _ _ _ _ _ _ _ _ (G_draw.mono (by decide)) hr rfl D_draw.m D_draw.fn.kp D_draw.b .nil pass0 (@pa_cons _ _ _ _ _ (pv 1) (@pa_cons _ _ _ _ _ (@pe_int _ _ _ _) (@pa_nil _) st_c) st_n) (by decide) (by rfl) (by rfl)) (fun _ _ => rfl)) (by rfl) (by first | exact .inl rfl | exact .inr rfl | assumption)) (@pss_one _ _ _ (@ps_ret _ _ _ _ (@pe_bm _ _ _ _ _ _ _ _ _ _ _ _ PySem.F.plainAttrs_str PySem.F.slot_str_join PySem.F.type_str_join mt_join (@pe_str _ _ _ _) (@pa_cons _ _ _ _ _ (@pe_op _ _ _ _ _ _ _ _ op_cat (@pe_op _ _ _ _ _ _ _ _ op_cat (@pe_slice _ _ _ _ _ _ _ _ _ _ sl_list (pv 2) (@po_none _) (@po_some _ _ _ (pv 3))) (@pe_slice _ _ _ _ _ _ _ _ _ _ sl_list (@pe_lst _ _ _ _ (@pa_cons _ _ _ _ _ (pv 5) (@pa_nil _) st_n)) (@po_none _) (@po_some _ _ _ (@pe_call _ _ _ _ _ _ _ _ _ _ _ _ _ _ _ _ (G_draw.mono (by decide)) hr rfl D_draw.m D_draw.fn.kp D_draw.b .nil pass0 (@pa_cons _ _ _ _ _ (pv 1) (@pa_cons _ _ _ _ _ (@pe_int _ _ _ _) (@pa_nil _) st_c) st_n) (by decide) (by rfl) (by rfl))))) (@pe_slice _ _ _ _ _ _ _ _ _ _ sl_list (pv 2) (@po_some _ _ _ (@pe_op _ _ _ _ _ _ _ _ op_add (pv 3) (@pe_call _ _ _ _ _ _ _ _ _ _ _ _ _ _ _ _ (G_draw.mono (by decide)) hr rfl D_draw.m D_draw.fn.kp D_draw.b .nil pass0 (@pa_cons _ _ _ _ _ (pv 1) (@pa_cons _ _ _ _ _ (@pe_int _ _ _ _) (@pa_nil _) st_c) st_n) (by decide) (by rfl) (by rfl)))) (@po_none _))) (@pa_nil _) (by rfl)) (by rfl) (by rfl) (by rfl) (by rfl) (by rfl))))))))), ?_⟩
  refine ⟨_, rfl, p, 2, rfl, ds, by decide, by decide, fun r1 H1 a0 a1 dr1 => ?_⟩
  refine ⟨rfl, decide (V.int r1 = V.int 0), rfl, ?_⟩
  cases h0 : decide (V.int r1 = V.int 0) with
  | true => exact ⟨_, rfl, _, rfl, z, p, rfl, zA, zl, dr1.ds, fun y H2 dr2 yA yl => q y H2 (dr1.trans dr2) yA (by omega)⟩
  | false =>
    have z2 : z.length + 2 ≤ sizeLine := Nat.le_trans (show z.length + 2 ≤ 1000000 by omega) (line4 (Nat.le_refl _))
    have sl := split_len z ","
    have s0 := split_pos z ","
    have ss := split_sum z ","
    have hp : ∀ p ∈ Txt.split z ",", As p ∧ p.length ≤ z.length := fun p h => ⟨(part_of h).2 zA, (part_of h).1⟩
    refine ⟨_, rfl, rfl, z, _, rfl, rfl, rfl, z2, fun W nW => ?_⟩
    generalize Txt.split z "," = ps at sl s0 ss hp ⊢
    have D2 := Dr.new dr1.ds nW (.lst (ps.map V.str))
    have gW := hid_new dr1.ds nW (.lst (ps.map V.str))
    have el : (ps.map V.str).length = ps.length := List.length_map ..
    refine ⟨_, rfl, _, rfl, W, _, rfl, .inl (SqL.of upd_same), p, _, rfl, D2.ds, by omega, by omega, fun at_ H3 b0 b1 dr3 => ?_⟩
    have gW3 := dr3.same _ _ gW
    obtain ⟨t0, et0, mt0⟩ := at_strs (ps := ps) b0 (by rw [← el]; exact b1)
    refine ⟨_, rfl, p, 4, rfl, dr3.ds, by decide, by decide, fun r4 H4 c0 c1 dr4 => ?_⟩
    have gW4 := dr4.same _ _ gW3
    refine ⟨_, _, rfl, rfl, "7", 199 + r4, rfl, rfl, (by omega), (by omega), (by show 1 * (199 + r4).toNat ≤ 16777216; omega), ?_⟩
    refine ⟨"9", 200, rfl, rfl, (by decide), (by decide), (by decide), "-", _, rfl, rfl, (by decide), ?_⟩
    refine ⟨_, rfl, _, rfl, W, _, at_, _, rfl, rfl, SqL.of (hid_le p _ _ _ gW4), et0, ?_⟩
    refine ⟨(by rw [sizeLine_eq]; show 10 ≤ _; decide), fun S nS => ?_⟩
    have wA : ∀ x ∈ (["", "-", "-0", "00", "--1", "+1", Txt.mul "7" (199 + r4), "-" ++ Txt.mul "9" 200, t0, "0"] : List Str), As x ∧ x.length ≤ z.length + 203 := by
      intro x hx
      have ml : (Txt.mul "7" (199 + r4)).length = (199 + r4).toNat * 1 := mul_len _ _
      have m9 : ("-" ++ Txt.mul "9" 200 : Str).length = 201 := by decide +kernel
      have A7 : As (Txt.mul "7" (199 + r4)) := fun c hc => by
        have := mul_mem hc
        revert c
        exact fun c _ h => (show ∀ c ∈ ("7" : Str).cps.toList, c < 128 by decide +kernel) c h
      have sm : ∀ y ∈ (["", "-", "-0", "00", "--1", "+1", "-" ++ Txt.mul "9" 200, "0"] : List Str), y.cps.toList.all (fun c => decide (c < 128)) = true ∧ y.length ≤ 203 := by decide +kernel
      have sA : ∀ y ∈ (["", "-", "-0", "00", "--1", "+1", "-" ++ Txt.mul "9" 200, "0"] : List Str), As y ∧ y.length ≤ z.length + 203 := fun y hy => ⟨fun c hc => of_decide_eq_true (List.all_eq_true.mp (sm y hy).1 c hc), by have := (sm y hy).2; omega⟩
      simp only [List.mem_cons, List.not_mem_nil, or_false] at hx
      rcases hx with h | h | h | h | h | h | h | h | h | h
      · exact sA x (by rw [h]; simp)
      · exact sA x (by rw [h]; simp)
      · exact sA x (by rw [h]; simp)
      · exact sA x (by rw [h]; simp)
      · exact sA x (by rw [h]; simp)
      · exact sA x (by rw [h]; simp)
      · rw [h]; exact ⟨A7, by omega⟩
      · exact sA x (by rw [h]; simp)
      · rw [h]; exact ⟨(hp t0 mt0).1, by have := (hp t0 mt0).2; omega⟩
      · exact sA x (by rw [h]; simp)
    have D4 := Dr.new dr4.ds nS (.lst ((["", "-", "-0", "00", "--1", "+1", Txt.mul "7" (199 + r4), "-" ++ Txt.mul "9" 200, t0, "0"] : List Str).map V.str))
    have gS := hid_new dr4.ds nS (.lst ((["", "-", "-0", "00", "--1", "+1", Txt.mul "7" (199 + r4), "-" ++ Txt.mul "9" 200, t0, "0"] : List Str).map V.str))
    have gW5 := D4.same _ _ gW4
    refine ⟨_, rfl, _, rfl, p, 10, rfl, D4.ds, by decide, by decide, fun r5 H5 d0 d1 dr5 => ?_⟩
    have gW6 := dr5.same _ _ gW5
    have gS6 := dr5.same _ _ gS
    obtain ⟨wd, ewd, mwd⟩ := at_strs (ps := (["", "-", "-0", "00", "--1", "+1", Txt.mul "7" (199 + r4), "-" ++ Txt.mul "9" 200, t0, "0"] : List Str)) d0 d1
    obtain ⟨wdA, wdl⟩ := wA wd mwd
    refine ⟨S, _, r5, _, rfl, rfl, SqL.of (hid_le p _ _ _ gS6), ewd, ?_⟩
    refine ⟨rfl, _, rfl, _, rfl, _, rfl, W, _, rfl, SqL.of (hid_le p _ _ _ gW6), fun A1 nA1 => ?_⟩
    obtain ⟨qs1, eq1, sb1⟩ := cut_strs ps none (some at_)
    rw [eq1]
    have D6 := Dr.new dr5.ds nA1 (.lst (qs1.map V.str))
    have gA1 := hid_new dr5.ds nA1 (.lst (qs1.map V.str))
    have gW7 := D6.same _ _ gW6
    refine ⟨_, rfl, (by rw [sizeLine_eq]; show 1 ≤ _; decide), fun B nB => ?_⟩
    have D7 := Dr.new D6.ds nB (.lst [.str wd])
    have gB := hid_new D6.ds nB (.lst [.str wd])
    have gW8 := D7.same _ _ gW7
    have gA2 := D7.same _ _ gA1
    refine ⟨_, rfl, p, 3, rfl, D7.ds, by decide, by decide, fun r6 H6 f0 f1 dr6 => ?_⟩
    have gW9 := dr6.same _ _ gW8
    have gA3 := dr6.same _ _ gA2
    have gB2 := dr6.same _ _ gB
    refine ⟨_, rfl, B, _, rfl, SqL.of (hid_le p _ _ _ gB2), fun B2 nB2 => ?_⟩
    obtain ⟨qs2, eq2, sb2⟩ := cut_strs [wd] none (some r6)
    rw [show cutV [V.str wd] none (some r6) = qs2.map V.str from eq2]
    have D8 := Dr.new dr6.ds nB2 (.lst (qs2.map V.str))
    have gB3 := hid_new dr6.ds nB2 (.lst (qs2.map V.str))
    have gA4 := D8.same _ _ gA3
    have gWa := D8.same _ _ gW9
    have l1 := sb1.length_le
    have l2 := sb2.length_le
    have bigL : ∀ n : Nat, n ≤ 1000000 → n ≤ sizeLine := fun n h => line4 h
    refine ⟨A1, B2, _, _, rfl, rfl, hid_le p _ _ _ gA4, hid_le p _ _ _ gB3, bigL _ (by rw [List.length_map, List.length_map]; have : [wd].length = 1 := rfl; omega), fun C nC => ?_⟩
    rw [← List.map_append]
    have D9 := Dr.new D8.ds nC (.lst ((qs1 ++ qs2).map V.str))
    have gC := hid_new D8.ds nC (.lst ((qs1 ++ qs2).map V.str))
    have gWb := D9.same _ _ gWa
    refine ⟨_, rfl, _, rfl, _, rfl, p, 2, rfl, D9.ds, by decide, by decide, fun r7 H7 k0 k1 dr7 => ?_⟩
    have gWc := dr7.same _ _ gWb
    have gC2 := dr7.same _ _ gC
    refine ⟨_, _, rfl, rfl, _, rfl, W, _, rfl, SqL.of (hid_le p _ _ _ gWc), fun F nF => ?_⟩
    obtain ⟨qs3, eq3, sb3⟩ := cut_strs ps (some (at_ + r7)) none
    rw [show cutV (ps.map V.str) (some (at_ + r7)) none = qs3.map V.str from eq3]
    have Da := Dr.new dr7.ds nF (.lst (qs3.map V.str))
    have gF := hid_new dr7.ds nF (.lst (qs3.map V.str))
    have gC3 := Da.same _ _ gC2
    have l3 := sb3.length_le
    refine ⟨C, F, _, _, rfl, rfl, hid_le p _ _ _ gC3, hid_le p _ _ _ gF, bigL _ (by rw [List.length_map, List.length_map, List.length_append]; have : [wd].length = 1 := rfl; omega), fun M nM => ?_⟩
    rw [← List.map_append]
    have Db := Dr.new Da.ds nM (.lst ((qs1 ++ qs2 ++ qs3).map V.str))
    have u1 := sub_sum (·.length) sb1
    have u2 := sub_sum (·.length) sb2
    have u3 := sub_sum (·.length) sb3
    have uw : ([wd].map (·.length)).sum = wd.length := by simp
    have us : ((qs1 ++ qs2 ++ qs3).map (·.length)).sum ≤ 3 * z.length + 203 := by
      rw [List.map_append, List.map_append, List.sum_append, List.sum_append]; omega
    have ul : (qs1 ++ qs2 ++ qs3).length ≤ 2 * ps.length + 1 := by
      rw [List.length_append, List.length_append]; have : [wd].length = 1 := rfl; omega
    have c1' : (("," : Str).length) = 1 := rfl
    refine ⟨",", M, qs1 ++ qs2 ++ qs3, rfl, rfl, SqL.of upd_same, (by rw [c1']; omega), ?_⟩
    refine q _ _ (dr1.trans (D2.trans (dr3.trans (dr4.trans (D4.trans (dr5.trans (D6.trans (D7.trans (dr6.trans (D8.trans (D9.trans (dr7.trans (Da.trans Db))))))))))))) (join_As (by unfold As; decide +kernel) fun y hy => ?_) ?_
    · rcases List.mem_append.mp hy with hy | hy
      · rcases List.mem_append.mp hy with hy | hy
        · exact (hp y (sb1.subset hy)).1
        · have : y = wd := by simpa using sb2.subset hy
          rw [this]; exact wdA
      · exact (hp y (sb3.subset hy)).1
    · rw [join_len, c1']
      omega
end
end K3
end
section
set_option Elab.async false
set_option linter.all false
set_option maxRecDepth 100000
set_option maxHeartbeats 4000000
namespace K3
open PySem PySem.Spec PyProof.Rows L2
section
variable {P : Program} {w : World} {K : PySem.W.Frag} {mg : Str → Option Value} {base : Heap}
theorem back_same {H H1 H2 : Hp} {l : Addr} (s : Same H H1) (n : H l = none) (d : Dr l H1 H2) : Same H H2 := fun b o e => by
  have z : b ≠ l := ne_of_none e n
  have := d.same b o (by rw [hid_ne z]; exact s b o e)
  exact hid_le l H2 b o this
structure AllD where
  draws : DD
  num : DD
  tt : DD
  sh : DD
  right : DD
  spo : DD
  thing : DD
structure All (P : Program) (w : World) (K : PySem.W.Frag) (mg : Str → Option Value) (base : Heap) (d : AllD) : Prop where
  D_draws : Def K mg "_law_draws" (top 29) ["script", "k"] d.draws
  D_num : Def K mg "_law_number" (top 30) ["draws"] d.num
  D_tt : Def K mg "table_text" (top 18) ["table"] d.tt
  D_sh : Def K mg "_law_shown" (top 31) ["table"] d.sh
  D_right : Def K mg "_law_right" (top 34) ["thing"] d.right
  D_spo : Def K mg "_law_spoilt" (top 35) ["text", "draws"] d.spo
  D_thing : Def K mg "_law_thing" (top 32) ["draws", "deep"] d.thing
  G_draws : FnOk P w K mg base CX0 1 d.draws.f d.draws.fd ["script", "k"] (spDraws K)
  G_num : FnOk P w K mg base CX0 2 d.num.f d.num.fd ["draws"] spNum
  G_tt : FnOk P w K mg base CX0 3 d.tt.f d.tt.fd ["table"] (spTt K)
  G_sh : FnOk P w K mg base CX0 3 d.sh.f d.sh.fd ["table"] (spTt K)
  G_right : FnOk P w K mg base CX0 5 d.right.f d.right.fd ["thing"] spRight
  G_spo : FnOk P w K mg base CX0 3 d.spo.f d.spo.fd ["text", "draws"] spSpo
  G_thing : FnOk P w K mg base CX0 5 d.thing.f d.thing.fd ["draws", "deep"] (spThing 4)
  b_range : mg "range" = none
  b_max : mg "max" = none
  b_min : mg "min" = none
  b_len : mg "len" = none
  b_isinstance : mg "isinstance" = none
  b_tuple : mg "tuple" = none
  b_str : mg "str" = none
theorem sc_law : FnScope ["script", "k", "draws", "table", "text", "turn"] ["script"] (defScope (top 36)) := ⟨rfl, rfl, rfl, by decide +kernel, rfl, by decide +kernel, by decide +kernel⟩
theorem shown_dig (i : Int) : ∀ c ∈ shown i, c < 128 := by
  have h := dec_dig i.natAbs
  unfold shown
  split
  · intro c hc
    rcases List.mem_cons.mp hc with rfl | hc
    · decide
    · have := h c hc; omega
  · intro c hc
    have := h c hc; omega
theorem shown_l6 {i : Int} (h : i.natAbs < 2 ^ 660) : (shown i).length ≤ 661 := by
  have := dec_len (by decide) h
  unfold shown
  split
  · rw [List.length_cons]; omega
  · omega
theorem sum_l6 : ∀ (is : List Int), (∀ i ∈ is, i.natAbs < 2 ^ 660) → ((is.map fun i => txt (shown i)).map (·.length)).sum ≤ 661 * is.length
  | [], _ => Nat.zero_le _
  | i :: r, h => by
    have h1 := shown_l6 (h i List.mem_cons_self)
    have h2 := sum_l6 r fun j hj => h j (List.mem_cons_of_mem _ hj)
    have e : (txt (shown i)).length = (shown i).length := by show (shown i).toArray.size = _; simp
    rw [List.map_cons, List.map_cons, List.sum_cons, List.length_cons, e]
    omega
theorem tt_as (is : List Int) : As (tt is) := join_As (by unfold As; decide +kernel) fun z hz => by
  obtain ⟨i, _, rfl⟩ := List.mem_map.mp hz
  exact shown_dig i
theorem tt_len {is : List Int} (hl : is.length = 4) (h : ∀ i ∈ is, i.natAbs < 2 ^ 660) : (tt is).length ≤ 2700 := by
  unfold tt
  rw [join_len, List.length_map, hl]
  have := sum_l6 is h
  have c1' : (("," : Str).length) = 1 := rfl
  rw [c1']
  omega
theorem jb (m : Int) (h : 0 ≤ m) : -(2 ^ 62) ≤ (if (if m < 16 then m else 16) > 1 then (if m < 16 then m else 16) else 1) ∧ (if (if m < 16 then m else 16) > 1 then (if m < 16 then m else 16) else 1) < 2 ^ 62 ∧ (if (if m < 16 then m else 16) > 1 then (if m < 16 then m else 16) else 1).toNat ≤ 16 := by
  split <;> split <;> omega
def spLaw (K : PySem.W.Frag) : Sp := fun vs H Q _ => ∃ (a : Addr) (ns : List Int), vs = [.ref a] ∧ SqL K H a (ns.map V.int) ∧ ns.length ≤ 63 ∧ ∀ H', Q (.bl true) H'
theorem ok_law {d : DD} {D : AllD} (A : All P w K mg base D) (DL : Def K mg "law" (top 36) ["script"] d) : FnOk P w K mg base CX0 7 d.f d.fd ["script"] (spLaw K) := by
  refine DL.fn.ok sc_law (fun vs H Q E h => ?_) (fun cdv Ar outer s H vs Q E hr h => ?_)
  · obtain ⟨a, ns, rfl, _⟩ := h
    rfl
  obtain ⟨a, ns, rfl, hS, h63, q⟩ := h
  have hc := hr.calm
  have nd := sc_law.nd
  refine ⟨_, (@pss_cons _ _ _ _ _ (@ps_for _ _ _ _ _ _ _ _ PassesOwn.never hc (@pi_range1 _ _ _ _ _ _ rfl A.b_range (@pa_cons _ _ _ _ _ (@pe_callB _ _ _ _ _ _ _ _ _ (call_max2 hc) rfl A.b_max bt_max (@pa_cons _ _ _ _ _ (@pe_int _ _ _ _) (@pa_cons _ _ _ _ _ (@pe_callB _ _ _ _ _ _ _ _ _ (call_min2 hc) rfl A.b_min bt_min (@pa_cons _ _ _ _ _ (@pe_int _ _ _ _) (@pa_cons _ _ _ _ _ (@pe_callB _ _ _ _ _ _ _ _ _ call_len_seq rfl A.b_len bt_len (@pa_cons _ _ _ _ _ (pv 0) (@pa_nil _) st_n) (by decide) (by decide) (by rfl) (by rfl)) (@pa_nil _) st_f) st_c) (by decide) (by decide) (by rfl) (by rfl)) (@pa_nil _) st_f) st_c) (by decide) (by decide) (by rfl) (by rfl)) (@pa_nil _) st_f) (by rfl)) (@pg_name _ _ (1) _ nd rfl (Or.inl rfl) (by first | exact .inl rfl | exact .inr rfl | assumption)) (@pss_cons _ _ _ _ _ (@ps_set _ _ (2) _ _ _ _ nd rfl (Or.inr rfl) (@pe_call _ _ _ _ _ _ _ _ _ _ _ _ _ _ _ _ (A.G_draws.mono (by decide)) hr rfl A.D_draws.m A.D_draws.fn.kp A.D_draws.b .nil pass0 (@pa_cons _ _ _ _ _ (pv 0) (@pa_cons _ _ _ _ _ (pv 1) (@pa_nil _) st_n) st_n) (by decide) (by rfl) (by rfl)) (by rfl) (by first | exact .inl rfl | exact .inr rfl | assumption)) (@pss_cons _ _ _ _ _ (@ps_set _ _ (3) _ _ _ _ nd rfl (Or.inl rfl) (@pe_callTy _ _ _ _ _ _ _ _ _ call_tuple_of rfl A.b_tuple bt_tuple (@pa_cons _ _ _ _ _ (@pe_comp _ _ _ _ _ _ _ _ _ _ _ _ _ _ hc (compScope_of (ts := ["j"]) (cap := ["draws"]) (js := [2]) rfl rfl rfl rfl rfl rfl (by decide +kernel)) (@pi_range1 _ _ _ _ _ _ rfl A.b_range (@pa_cons _ _ _ _ _ (@pe_int _ _ _ _) (@pa_nil _) st_c) (by rfl)) (fun _ _ _ _ => @pg_name _ _ (0) _ (show (["j", "draws"] : List Str).Nodup by decide +kernel) rfl (Or.inl rfl) (.inr rfl)) (fun _ _ _ _ => @pts_nil _) (fun _ _ _ _ => (@pe_call _ _ _ _ _ _ _ _ _ _ _ _ _ _ _ _ (A.G_num.mono (by decide)) hr rfl A.D_num.m A.D_num.fn.kp A.D_num.b .nil pass0 (@pa_cons _ _ _ _ _ (pv 1) (@pa_nil _) st_n) (by decide) (by rfl) (by rfl))) (by intro _; rfl)) (@pa_nil _) (by rfl)) (by decide) (by decide) (by rfl) (by rfl)) (by rfl) (by first | exact .inl rfl | exact .inr rfl | assumption)) (@pss_cons _ _ _ _ _ (@ps_set _ _ (4) _ _ _ _ nd rfl (Or.inl rfl) (@pe_call _ _ _ _ _ _ _ _ _ _ _ _ _ _ _ _ (A.G_tt.mono (by decide)) hr rfl A.D_tt.m A.D_tt.fn.kp A.D_tt.b .nil pass0 (@pa_cons _ _ _ _ _ (pv 3) (@pa_nil _) st_n) (by decide) (by rfl) (by rfl)) (by rfl) (by first | exact .inl rfl | exact .inr rfl | assumption)) (@pss_cons _ _ _ _ _ (@ps_if _ _ _ _ _ _ _ _ (@PW.pt _ _ _ (@pw_or _ _ _ _ _ _ _ (@pt_not _ _ _ _ (@pt_val _ _ _ (@pe_callB _ _ _ _ _ _ _ _ _ call_isT rfl A.b_isinstance bt_isinstance (@pa_cons _ _ _ _ _ (pv 4) (@pa_cons _ _ _ _ _ (@pe_bltn _ _ (.ty "str") _ _ rfl A.b_str bt_str rfl (by decide) (by decide)) (@pa_nil _) st_n) st_n) (by decide) (by decide) (by rfl) (by rfl)) (by intro _; rfl))) (@pw_or _ _ _ _ _ _ _ (@pt_cmpR _ _ _ _ _ _ _ _ op_ne (pv 4) (@pe_call _ _ _ _ _ _ _ _ _ _ _ _ _ _ _ _ (A.G_sh.mono (by decide)) hr rfl A.D_sh.m A.D_sh.fn.kp A.D_sh.b .nil pass0 (@pa_cons _ _ _ _ _ (pv 3) (@pa_nil _) st_n) (by decide) (by rfl) (by rfl)) (nomark _)) (@pw_or1 _ _ _ _ (@pt_not _ _ _ _ (@pt_val _ _ _ (@pe_call _ _ _ _ _ _ _ _ _ _ _ _ _ _ _ _ (A.G_right.mono (by decide)) hr rfl A.D_right.m A.D_right.fn.kp A.D_right.b .nil pass0 (@pa_cons _ _ _ _ _ (pv 4) (@pa_nil _) st_n) (by decide) (by rfl) (by rfl)) (by intro _; rfl))))))) (@pss_one _ _ _ (@ps_ret _ _ _ _ (@pe_bl _ _ _ _))) (@pss_nil _)) (@pss_cons _ _ _ _ _ (@ps_for _ _ _ _ _ _ _ _ PassesOwn.never hc (@pi_range1 _ _ _ _ _ _ rfl A.b_range (@pa_cons _ _ _ _ _ (@pe_int _ _ _ _) (@pa_nil _) st_c) (by rfl)) (@pg_name _ _ (5) _ nd rfl (Or.inl rfl) (by first | exact .inl rfl | exact .inr rfl | assumption)) (@pss_cons _ _ _ _ _ (@ps_set _ _ (4) _ _ _ _ nd rfl (Or.inl rfl) (@pe_call _ _ _ _ _ _ _ _ _ _ _ _ _ _ _ _ (A.G_spo.mono (by decide)) hr rfl A.D_spo.m A.D_spo.fn.kp A.D_spo.b .nil pass0 (@pa_cons _ _ _ _ _ (pv 4) (@pa_cons _ _ _ _ _ (pv 2) (@pa_nil _) st_n) st_n) (by decide) (by rfl) (by rfl)) (by rfl) (by first | exact .inl rfl | exact .inr rfl | assumption)) (@pss_one _ _ _ (@ps_if _ _ _ _ _ _ _ _ (@pt_not _ _ _ _ (@pt_val _ _ _ (@pe_call _ _ _ _ _ _ _ _ _ _ _ _ _ _ _ _ (A.G_right.mono (by decide)) hr rfl A.D_right.m A.D_right.fn.kp A.D_right.b .nil pass0 (@pa_cons _ _ _ _ _ (pv 4) (@pa_nil _) st_n) (by decide) (by rfl) (by rfl)) (by intro _; rfl))) (@pss_one _ _ _ (@ps_ret _ _ _ _ (@pe_bl _ _ _ _))) (@pss_nil _)))) (by intro _; rfl)) (@pss_one _ _ _ (@ps_if _ _ _ _ _ _ _ _ (@pt_not _ _ _ _ (@pt_val _ _ _ (@pe_call _ _ _ _ _ _ _ _ _ _ _ _ _ _ _ _ (A.G_right.mono (by decide)) hr rfl A.D_right.m A.D_right.fn.kp A.D_right.b .nil pass0 (@pa_cons _ _ _ _ _ (@pe_call _ _ _ _ _ _ _ _ _ _ _ _ _ _ _ _ (A.G_thing.mono (by decide)) hr rfl A.D_thing.m A.D_thing.fn.kp A.D_thing.b .nil pass0 (@pa_cons _ _ _ _ _ (pv 2) (@pa_cons _ _ _ _ _ (@pe_int _ _ _ _) (@pa_nil _) st_c) st_n) (by decide) (by rfl) (by rfl)) (@pa_nil _) st_f) (by decide) (by rfl) (by rfl)) (by intro _; rfl))) (@pss_one _ _ _ (@ps_ret _ _ _ _ (@pe_bl _ _ _ _))) (@pss_nil _)))))))) (by intro _; rfl)) (@pss_one _ _ _ (@ps_ret _ _ _ _ (@pe_bl _ _ _ _)))), ?_⟩
  have hl : (ns.map V.int).length = ns.length := List.length_map _
  refine ⟨_, rfl, a, _, rfl, .inl hS, _, _, rfl, _, _, rfl, _, rfl, (jb _ (Int.natCast_nonneg _)).1, (jb _ (Int.natCast_nonneg _)).2.1, ?_⟩
  have j16 := (jb (((ns.map V.int).length : Nat) : Int) (Int.natCast_nonneg _)).2.2
  refine for_range (lo := 0) (n := _) (fun i σ H' => ∃ x1 x2 x3 x4 x5, σ = [some (.ref a), x1, x2, x3, x4, x5] ∧ Same H H') ⟨none, none, none, none, none, rfl, Same.refl H⟩ (fun i σ Hi hi z => ?_) (fun σ H' z => ?_)
  rotate_left
  · obtain ⟨x1, x2, x3, x4, x5, rfl, S⟩ := z
    exact q H'
  obtain ⟨x1, x2, x3, x4, x5, rfl, S⟩ := z
  have hi' : i < 16 := Nat.lt_of_lt_of_le hi j16
  refine ⟨_, rfl, _, rfl, a, ns, 0 + (i : Int), rfl, S.seq hS, by omega, by omega, fun l H1 S1 nl ds => ?_⟩
  have DR0 := Dr.refl ds
  refine ⟨4, rfl, by decide, by decide, ?_⟩
  refine compR (lo := 0) (n := 4) (fun j ys H' => Dr l H1 H' ∧ ∃ is : List Int, ys = is.map V.int ∧ is.length = j ∧ ∀ i ∈ is, Lt2 660 i) ⟨DR0, [], rfl, rfl, fun i h => absurd h (by simp)⟩ (fun j ys H' hj z => by obtain ⟨_, is, rfl, e, _⟩ := z; rw [List.length_map, e]; exact Nat.le_refl _) (line4 (by decide)) (fun j ys H' hj z => ?_) (fun ys H' z L nL => ?_)
  · obtain ⟨z1, is, rfl, e, hb⟩ := z
    refine ⟨_, rfl, l, rfl, z1.ds, fun r H2 hr dr => Nx.mk hj ⟨z1.trans dr, is ++ [r], by rw [List.map_append]; rfl, by rw [List.length_append, e]; rfl, fun i hi => ?_⟩⟩
    rcases List.mem_append.mp hi with h | h
    · exact hb i h
    · rw [List.mem_singleton.mp h]; exact hr
  obtain ⟨z1, is, rfl, e4, hb⟩ := z
  have D1 := Dr.new z1.ds nL (.lst (is.map V.int))
  refine ⟨L, _, rfl, .inl ⟨SqL.of upd_same, fun T nT => ?_⟩⟩
  have D2 := Dr.new D1.ds nT (.tup (is.map V.int))
  have gT := hid_new D1.ds nT (.tup (is.map V.int))
  have DT := z1.trans (D1.trans D2)
  generalize upd (upd H' L (.lst (is.map V.int))) T (.tup (is.map V.int)) = HT at D2 gT DT ⊢
  have hb2 : ∀ i ∈ is, i.natAbs < 2 ^ 1000 := fun i hi => Nat.lt_of_lt_of_le (hb i hi) (Nat.pow_le_pow_right (by decide) (by decide))
  refine ⟨_, rfl, T, is, rfl, hid_le l _ _ _ gT, e4, hb2, fun H3 S3 => ?_⟩
  have tA := tt_as is
  have tl := tt_len e4 hb
  have DS3 := Dr.of_same DT.ds S3
  have gT3 := S3 _ _ (hid_le l _ _ _ gT)
  obtain ⟨ty, y1, e1⟩ := as_str (K := K) (.str (H := H3) (tt is))
  refine ⟨_, rfl, .str (tt is), .ty "str", ty, _, _, rfl, rfl, y1, e1, _, rfl, ?_⟩
  refine ⟨_, rfl, _, rfl, T, is, rfl, gT3, e4, hb2, fun H4 S4 => ⟨rfl, false, (by rw [decide_eq_true rfl]; rfl), ?_⟩⟩
  refine ⟨_, rfl, .str (tt is), rfl, .str _, (fun x hx => by injection hx with hx; rw [← hx]; exact ⟨tA, by omega⟩), fun H5 S5 => ⟨true, rfl, ?_⟩⟩
  have D5 := DT.trans (Dr.of_same DT.ds (S3.trans (S4.trans S5)))
  refine ⟨2, rfl, by decide, by decide, ?_⟩
  refine for_range (lo := 0) (n := 2) (fun j σ H' => ∃ (x : Str) (y5 : Option V), σ = [some (.ref a), some (.int (0 + (i : Int))), some (.ref l), some (.ref T), some (.str x), y5] ∧ Dr l H1 H' ∧ As x ∧ ((j = 0 ∧ x.length ≤ 2700) ∨ (j = 1 ∧ x.length ≤ 13800) ∨ j = 2)) ⟨tt is, _, rfl, D5, tA, .inl ⟨rfl, tl⟩⟩ (fun j σ H' hj z => ?_) (fun σ H' z => ?_)
  · obtain ⟨x, y5, rfl, dx, xA, xl⟩ := z
    have xl2 : (j = 0 ∧ x.length ≤ 2700) ∨ (j = 1 ∧ x.length ≤ 13800) := by
      rcases xl with h | h | h
      · exact .inl h
      · exact .inr h
      · omega
    have xl3 : x.length ≤ 20000 := by rcases xl2 with ⟨_, h⟩ | ⟨_, h⟩ <;> omega
    refine ⟨_, rfl, _, rfl, x, l, rfl, xA, xl3, dx.ds, fun y H6 d6 yA yl => ?_⟩
    refine ⟨_, rfl, .str y, rfl, .str _, (fun x hx => by injection hx with hx; rw [← hx]; exact ⟨yA, by rcases xl2 with ⟨_, h⟩ | ⟨_, h⟩ <;> omega⟩), fun H7 S7 => ⟨true, rfl, ?_⟩⟩
    refine ⟨y, _, rfl, dx.trans (d6.trans (Dr.of_same d6.ds S7)), yA, ?_⟩
    rcases xl2 with ⟨h1, h2⟩ | ⟨h1, h2⟩
    · exact .inr (.inl ⟨by omega, by omega⟩)
    · exact .inr (.inr (by omega))
  · obtain ⟨x, y5, rfl, dx, xA, xl⟩ := z
    refine ⟨_, rfl, l, 3, rfl, by decide, by decide, dx.ds, fun r b H6 d6 th hx => ?_⟩
    refine ⟨r, rfl, th.kn.mono (hid_le l _), (fun x e => ⟨(hx x e).1, by have := (hx x e).2; omega⟩), fun H7 S7 => ⟨true, rfl, ?_⟩⟩
    exact ⟨_, _, _, _, _, rfl, S.trans (back_same S1 nl (dx.trans (d6.trans (Dr.of_same d6.ds S7))))⟩
end
end K3
end
section
set_option Elab.async false
set_option linter.all false
set_option maxRecDepth 100000
set_option maxHeartbeats 4000000
namespace K3
open PySem PySem.Spec PyProof.Rows L2
theorem len1 {us : List Value} (h : us.length = 1) : ∃ a, us = [a] := match us, h with | [a], _ => ⟨a, rfl⟩
theorem len2 {us : List Value} (h : us.length = 2) : ∃ a b, us = [a, b] := match us, h with | [a, b], _ => ⟨a, b, rfl⟩
theorem all_mk {l : PySem.W.OpenLaw} {w : World} {K : PySem.W.Frag} {h : Heap} {mg : Str → Option Value} {fa : Addr} (X : K.In h) (G : h.Ns mainGlobals mg) (hfa : mg "law" = some (.ref fa))
    {f_lwh : Addr} {od_lwh an_lwh : Option Addr} {sl_lwh : Array (Option Value)} {oc_lwh kV_lwh dc_lwh pm_lwh cd_lwh ct_lwh : Value}
    (a_lwh : PySem.W.nsIn K mainGlobals "_law_whole" = some (some (.ref f_lwh))) (l_lwh : K.lookup f_lwh = some ⟨oc_lwh, od_lwh, .func (PySem.W.fnOf "_law_whole" "_law_whole" (defArgs (top 26)) (defBody (top 26)) (defScope (top 26)) .none kV_lwh dc_lwh pm_lwh an_lwh cd_lwh ct_lwh), sl_lwh⟩) (c_lwh : PySem.W.codeIn K cd_lwh "_law_whole" = true) (k_lwh : PySem.W.keepIn K (.ref f_lwh) = true)
    {f_draw : Addr} {od_draw an_draw : Option Addr} {sl_draw : Array (Option Value)} {oc_draw kV_draw dc_draw pm_draw cd_draw ct_draw : Value}
    (a_draw : PySem.W.nsIn K mainGlobals "_law_draw" = some (some (.ref f_draw))) (l_draw : K.lookup f_draw = some ⟨oc_draw, od_draw, .func (PySem.W.fnOf "_law_draw" "_law_draw" (defArgs (top 27)) (defBody (top 27)) (defScope (top 27)) .none kV_draw dc_draw pm_draw an_draw cd_draw ct_draw), sl_draw⟩) (c_draw : PySem.W.codeIn K cd_draw "_law_draw" = true) (k_draw : PySem.W.keepIn K (.ref f_draw) = true)
    {f_draws : Addr} {od_draws an_draws : Option Addr} {sl_draws : Array (Option Value)} {oc_draws kV_draws dc_draws pm_draws cd_draws ct_draws : Value}
    (a_draws : PySem.W.nsIn K mainGlobals "_law_draws" = some (some (.ref f_draws))) (l_draws : K.lookup f_draws = some ⟨oc_draws, od_draws, .func (PySem.W.fnOf "_law_draws" "_law_draws" (defArgs (top 29)) (defBody (top 29)) (defScope (top 29)) .none kV_draws dc_draws pm_draws an_draws cd_draws ct_draws), sl_draws⟩) (c_draws : PySem.W.codeIn K cd_draws "_law_draws" = true) (k_draws : PySem.W.keepIn K (.ref f_draws) = true)
    {f_kind : Addr} {od_kind an_kind : Option Addr} {sl_kind : Array (Option Value)} {oc_kind kV_kind dc_kind pm_kind cd_kind ct_kind : Value}
    (a_kind : PySem.W.nsIn K mainGlobals "_law_kind" = some (some (.ref f_kind))) (l_kind : K.lookup f_kind = some ⟨oc_kind, od_kind, .func (PySem.W.fnOf "_law_kind" "_law_kind" (defArgs (top 23)) (defBody (top 23)) (defScope (top 23)) .none kV_kind dc_kind pm_kind an_kind cd_kind ct_kind), sl_kind⟩) (c_kind : PySem.W.codeIn K cd_kind "_law_kind" = true) (k_kind : PySem.W.keepIn K (.ref f_kind) = true)
    {f_fo : Addr} {od_fo an_fo : Option Addr} {sl_fo : Array (Option Value)} {oc_fo kV_fo dc_fo pm_fo cd_fo ct_fo : Value}
    (a_fo : PySem.W.nsIn K mainGlobals "figures_of" = some (some (.ref f_fo))) (l_fo : K.lookup f_fo = some ⟨oc_fo, od_fo, .func (PySem.W.fnOf "figures_of" "figures_of" (defArgs (top 16)) (defBody (top 16)) (defScope (top 16)) .none kV_fo dc_fo pm_fo an_fo cd_fo ct_fo), sl_fo⟩) (c_fo : PySem.W.codeIn K cd_fo "figures_of" = true) (k_fo : PySem.W.keepIn K (.ref f_fo) = true)
    {f_nt : Addr} {od_nt an_nt : Option Addr} {sl_nt : Array (Option Value)} {oc_nt kV_nt dc_nt pm_nt cd_nt ct_nt : Value}
    (a_nt : PySem.W.nsIn K mainGlobals "number_text" = some (some (.ref f_nt))) (l_nt : K.lookup f_nt = some ⟨oc_nt, od_nt, .func (PySem.W.fnOf "number_text" "number_text" (defArgs (top 17)) (defBody (top 17)) (defScope (top 17)) .none kV_nt dc_nt pm_nt an_nt cd_nt ct_nt), sl_nt⟩) (c_nt : PySem.W.codeIn K cd_nt "number_text" = true) (k_nt : PySem.W.keepIn K (.ref f_nt) = true)
    {f_tt : Addr} {od_tt an_tt : Option Addr} {sl_tt : Array (Option Value)} {oc_tt kV_tt dc_tt pm_tt cd_tt ct_tt : Value}
    (a_tt : PySem.W.nsIn K mainGlobals "table_text" = some (some (.ref f_tt))) (l_tt : K.lookup f_tt = some ⟨oc_tt, od_tt, .func (PySem.W.fnOf "table_text" "table_text" (defArgs (top 18)) (defBody (top 18)) (defScope (top 18)) .none kV_tt dc_tt pm_tt an_tt cd_tt ct_tt), sl_tt⟩) (c_tt : PySem.W.codeIn K cd_tt "table_text" = true) (k_tt : PySem.W.keepIn K (.ref f_tt) = true)
    {f_fig : Addr} {od_fig an_fig : Option Addr} {sl_fig : Array (Option Value)} {oc_fig kV_fig dc_fig pm_fig cd_fig ct_fig : Value}
    (a_fig : PySem.W.nsIn K mainGlobals "is_figures" = some (some (.ref f_fig))) (l_fig : K.lookup f_fig = some ⟨oc_fig, od_fig, .func (PySem.W.fnOf "is_figures" "is_figures" (defArgs (top 19)) (defBody (top 19)) (defScope (top 19)) .none kV_fig dc_fig pm_fig an_fig cd_fig ct_fig), sl_fig⟩) (c_fig : PySem.W.codeIn K cd_fig "is_figures" = true) (k_fig : PySem.W.keepIn K (.ref f_fig) = true)
    {f_int : Addr} {od_int an_int : Option Addr} {sl_int : Array (Option Value)} {oc_int kV_int dc_int pm_int cd_int ct_int : Value}
    (a_int : PySem.W.nsIn K mainGlobals "is_number_text" = some (some (.ref f_int))) (l_int : K.lookup f_int = some ⟨oc_int, od_int, .func (PySem.W.fnOf "is_number_text" "is_number_text" (defArgs (top 20)) (defBody (top 20)) (defScope (top 20)) .none kV_int dc_int pm_int an_int cd_int ct_int), sl_int⟩) (c_int : PySem.W.codeIn K cd_int "is_number_text" = true) (k_int : PySem.W.keepIn K (.ref f_int) = true)
    {f_read : Addr} {od_read an_read : Option Addr} {sl_read : Array (Option Value)} {oc_read kV_read dc_read pm_read cd_read ct_read : Value}
    (a_read : PySem.W.nsIn K mainGlobals "read_table" = some (some (.ref f_read))) (l_read : K.lookup f_read = some ⟨oc_read, od_read, .func (PySem.W.fnOf "read_table" "read_table" (defArgs (top 21)) (defBody (top 21)) (defScope (top 21)) .none kV_read dc_read pm_read an_read cd_read ct_read), sl_read⟩) (c_read : PySem.W.codeIn K cd_read "read_table" = true) (k_read : PySem.W.keepIn K (.ref f_read) = true)
    {f_fi : Addr} {od_fi an_fi : Option Addr} {sl_fi : Array (Option Value)} {oc_fi kV_fi dc_fi pm_fi cd_fi ct_fi : Value}
    (a_fi : PySem.W.nsIn K mainGlobals "_law_figures_in" = some (some (.ref f_fi))) (l_fi : K.lookup f_fi = some ⟨oc_fi, od_fi, .func (PySem.W.fnOf "_law_figures_in" "_law_figures_in" (defArgs (top 24)) (defBody (top 24)) (defScope (top 24)) .none kV_fi dc_fi pm_fi an_fi cd_fi ct_fi), sl_fi⟩) (c_fi : PySem.W.codeIn K cd_fi "_law_figures_in" = true) (k_fi : PySem.W.keepIn K (.ref f_fi) = true)
    {f_lr : Addr} {od_lr an_lr : Option Addr} {sl_lr : Array (Option Value)} {oc_lr kV_lr dc_lr pm_lr cd_lr ct_lr : Value}
    (a_lr : PySem.W.nsIn K mainGlobals "_law_read_table" = some (some (.ref f_lr))) (l_lr : K.lookup f_lr = some ⟨oc_lr, od_lr, .func (PySem.W.fnOf "_law_read_table" "_law_read_table" (defArgs (top 25)) (defBody (top 25)) (defScope (top 25)) .none kV_lr dc_lr pm_lr an_lr cd_lr ct_lr), sl_lr⟩) (c_lr : PySem.W.codeIn K cd_lr "_law_read_table" = true) (k_lr : PySem.W.keepIn K (.ref f_lr) = true)
    {f_sh : Addr} {od_sh an_sh : Option Addr} {sl_sh : Array (Option Value)} {oc_sh kV_sh dc_sh pm_sh cd_sh ct_sh : Value}
    (a_sh : PySem.W.nsIn K mainGlobals "_law_shown" = some (some (.ref f_sh))) (l_sh : K.lookup f_sh = some ⟨oc_sh, od_sh, .func (PySem.W.fnOf "_law_shown" "_law_shown" (defArgs (top 31)) (defBody (top 31)) (defScope (top 31)) .none kV_sh dc_sh pm_sh an_sh cd_sh ct_sh), sl_sh⟩) (c_sh : PySem.W.codeIn K cd_sh "_law_shown" = true) (k_sh : PySem.W.keepIn K (.ref f_sh) = true)
    {f_told : Addr} {od_told an_told : Option Addr} {sl_told : Array (Option Value)} {oc_told kV_told dc_told pm_told cd_told ct_told : Value}
    (a_told : PySem.W.nsIn K mainGlobals "_law_told" = some (some (.ref f_told))) (l_told : K.lookup f_told = some ⟨oc_told, od_told, .func (PySem.W.fnOf "_law_told" "_law_told" (defArgs (top 33)) (defBody (top 33)) (defScope (top 33)) .none kV_told dc_told pm_told an_told cd_told ct_told), sl_told⟩) (c_told : PySem.W.codeIn K cd_told "_law_told" = true) (k_told : PySem.W.keepIn K (.ref f_told) = true)
    {f_right : Addr} {od_right an_right : Option Addr} {sl_right : Array (Option Value)} {oc_right kV_right dc_right pm_right cd_right ct_right : Value}
    (a_right : PySem.W.nsIn K mainGlobals "_law_right" = some (some (.ref f_right))) (l_right : K.lookup f_right = some ⟨oc_right, od_right, .func (PySem.W.fnOf "_law_right" "_law_right" (defArgs (top 34)) (defBody (top 34)) (defScope (top 34)) .none kV_right dc_right pm_right an_right cd_right ct_right), sl_right⟩) (c_right : PySem.W.codeIn K cd_right "_law_right" = true) (k_right : PySem.W.keepIn K (.ref f_right) = true)
    {f_bent : Addr} {od_bent an_bent : Option Addr} {sl_bent : Array (Option Value)} {oc_bent kV_bent dc_bent pm_bent cd_bent ct_bent : Value}
    (a_bent : PySem.W.nsIn K mainGlobals "_law_bent" = some (some (.ref f_bent))) (l_bent : K.lookup f_bent = some ⟨oc_bent, od_bent, .func (PySem.W.fnOf "_law_bent" "_law_bent" (defArgs (top 28)) (defBody (top 28)) (defScope (top 28)) .none kV_bent dc_bent pm_bent an_bent cd_bent ct_bent), sl_bent⟩) (c_bent : PySem.W.codeIn K cd_bent "_law_bent" = true) (k_bent : PySem.W.keepIn K (.ref f_bent) = true)
    {f_num : Addr} {od_num an_num : Option Addr} {sl_num : Array (Option Value)} {oc_num kV_num dc_num pm_num cd_num ct_num : Value}
    (a_num : PySem.W.nsIn K mainGlobals "_law_number" = some (some (.ref f_num))) (l_num : K.lookup f_num = some ⟨oc_num, od_num, .func (PySem.W.fnOf "_law_number" "_law_number" (defArgs (top 30)) (defBody (top 30)) (defScope (top 30)) .none kV_num dc_num pm_num an_num cd_num ct_num), sl_num⟩) (c_num : PySem.W.codeIn K cd_num "_law_number" = true) (k_num : PySem.W.keepIn K (.ref f_num) = true)
    {f_thing : Addr} {od_thing an_thing : Option Addr} {sl_thing : Array (Option Value)} {oc_thing kV_thing dc_thing pm_thing cd_thing ct_thing : Value}
    (a_thing : PySem.W.nsIn K mainGlobals "_law_thing" = some (some (.ref f_thing))) (l_thing : K.lookup f_thing = some ⟨oc_thing, od_thing, .func (PySem.W.fnOf "_law_thing" "_law_thing" (defArgs (top 32)) (defBody (top 32)) (defScope (top 32)) .none kV_thing dc_thing pm_thing an_thing cd_thing ct_thing), sl_thing⟩) (c_thing : PySem.W.codeIn K cd_thing "_law_thing" = true) (k_thing : PySem.W.keepIn K (.ref f_thing) = true)
    {f_spo : Addr} {od_spo an_spo : Option Addr} {sl_spo : Array (Option Value)} {oc_spo kV_spo dc_spo pm_spo cd_spo ct_spo : Value}
    (a_spo : PySem.W.nsIn K mainGlobals "_law_spoilt" = some (some (.ref f_spo))) (l_spo : K.lookup f_spo = some ⟨oc_spo, od_spo, .func (PySem.W.fnOf "_law_spoilt" "_law_spoilt" (defArgs (top 35)) (defBody (top 35)) (defScope (top 35)) .none kV_spo dc_spo pm_spo an_spo cd_spo ct_spo), sl_spo⟩) (c_spo : PySem.W.codeIn K cd_spo "_law_spoilt" = true) (k_spo : PySem.W.keepIn K (.ref f_spo) = true)
    {f_law : Addr} {od_law an_law : Option Addr} {sl_law : Array (Option Value)} {oc_law kV_law dc_law pm_law cd_law ct_law : Value}
    (a_law : PySem.W.nsIn K mainGlobals "law" = some (some (.ref f_law))) (l_law : K.lookup f_law = some ⟨oc_law, od_law, .func (PySem.W.fnOf "law" "law" (defArgs (top 36)) (defBody (top 36)) (defScope (top 36)) .none kV_law dc_law pm_law an_law cd_law ct_law), sl_law⟩) (c_law : PySem.W.codeIn K cd_law "law" = true) (k_law : PySem.W.keepIn K (.ref f_law) = true)
    {t_MF : Tok} (e_MF : PySem.W.nsIn K mainGlobals "MOST_FIGURES" = some (some (.int 200 t_MF)))
    {q0 : Addr} (e_NoBack : PySem.W.nsIn K mainGlobals "NoBack" = some (some (.ref q0)))
    {q1 : Addr} (e_NoCount : PySem.W.nsIn K mainGlobals "NoCount" = some (some (.ref q1)))
    {q2 : Addr} (e_NoMakers : PySem.W.nsIn K mainGlobals "NoMakers" = some (some (.ref q2)))
    {q3 : Addr} (e_NoName : PySem.W.nsIn K mainGlobals "NoName" = some (some (.ref q3)))
    {q4 : Addr} (e_NoPlain : PySem.W.nsIn K mainGlobals "NoPlain" = some (some (.ref q4)))
    {q5 : Addr} (e_NoRow : PySem.W.nsIn K mainGlobals "NoRow" = some (some (.ref q5)))
    {q6 : Addr} (e_NoText : PySem.W.nsIn K mainGlobals "NoText" = some (some (.ref q6)))
    {q7 : Addr} (e_NoWide : PySem.W.nsIn K mainGlobals "NoWide" = some (some (.ref q7)))
    {q8 : Addr} (e_NoWord : PySem.W.nsIn K mainGlobals "NoWord" = some (some (.ref q8)))
    {q9 : Addr} (e_TooLong : PySem.W.nsIn K mainGlobals "TooLong" = some (some (.ref q9)))
    {q10 : Addr} (e_NoMill : PySem.W.nsIn K mainGlobals "NoMill" = some (some (.ref q10)))
    {qe : Addr} (e_QuadError : PySem.W.nsIn K mainGlobals "QuadError" = some (some (.ref qe))) (x_QuadError : PySem.W.excIn K qe bmVE "ValueError.__new__" = true)
    (gn : PySem.W.specialIn K (.builtin "object.__class__") "__get__" = some (some (.builtin "getset_descriptor.__get__"))) (tk : PySem.W.takesIn K (.builtin "object.__class__") = some true)
    (x_NoText : PySem.W.excIn K q6 bmVE "ValueError.__new__" = true) (sb_NoText : L2.subIn K q6 qe = true) (ga_NoText : PySem.W.findIn K (.ref q6) "__getattribute__" = some (some (.builtin "BaseException.__getattribute__"))) (gt_NoText : PySem.W.findIn K (.ref q6) "__getattr__" = some none) (ca_NoText : PySem.W.findIn K (.ref q6) "__class__" = some (some (.builtin "object.__class__"))) (mo_NoText : PySem.W.mroIn K q6 (.type "object") = some true) (mb_NoText : PySem.W.mroIn K q6 (.type "BaseException") = some true) {cd_NoText : ClassData} (ci_NoText : PySem.W.clsIn K q6 = some cd_NoText)
    (o0_NoText : PySem.W.kitOne K (.ref q6) (.ref q0) = some false)
    (o1_NoText : PySem.W.kitOne K (.ref q6) (.ref q1) = some false)
    (o2_NoText : PySem.W.kitOne K (.ref q6) (.ref q2) = some false)
    (o3_NoText : PySem.W.kitOne K (.ref q6) (.ref q3) = some false)
    (o4_NoText : PySem.W.kitOne K (.ref q6) (.ref q4) = some false)
    (o5_NoText : PySem.W.kitOne K (.ref q6) (.ref q5) = some false)
    (o6_NoText : PySem.W.kitOne K (.ref q6) (.ref q6) = some true)
    (o7_NoText : PySem.W.kitOne K (.ref q6) (.ref q7) = some false)
    (o8_NoText : PySem.W.kitOne K (.ref q6) (.ref q8) = some false)
    (o9_NoText : PySem.W.kitOne K (.ref q6) (.ref q9) = some false)
    (o10_NoText : PySem.W.kitOne K (.ref q6) (.ref q10) = some false)
    (o11_NoText : PySem.W.kitOne K (.ref q6) (.type "ValueError") = some true)
    {t_FIG : Tok} (e_FIG : PySem.W.nsIn K mainGlobals "FIGURES" = some (some (.str "0123456789" t_FIG)))
    (n_int : PySem.W.nsIn K mainGlobals "int" = some none)    (n_bool : PySem.W.nsIn K mainGlobals "bool" = some none)    (n_str : PySem.W.nsIn K mainGlobals "str" = some none)    (n_isinstance : PySem.W.nsIn K mainGlobals "isinstance" = some none)    (n_tuple : PySem.W.nsIn K mainGlobals "tuple" = some none)    (n_len : PySem.W.nsIn K mainGlobals "len" = some none)    (n_all : PySem.W.nsIn K mainGlobals "all" = some none)    (n_range : PySem.W.nsIn K mainGlobals "range" = some none)    (n_max : PySem.W.nsIn K mainGlobals "max" = some none)    (n_min : PySem.W.nsIn K mainGlobals "min" = some none)    (n_divmod : PySem.W.nsIn K mainGlobals "divmod" = some none)    (n_ValueError : PySem.W.nsIn K mainGlobals "ValueError" = some none) :
    ∃ fd : FuncData, (∀ (s : Shared) (v : Value), BindsTo s fd ⟨[v], []⟩ [("script", v)]) ∧ ∀ base : Heap, K.In base → base.Ns mainGlobals mg → FnOk l.prog w K mg base CX0 7 fa fd ["script"] (spLaw K) := by
  have e := hfa.symm.trans (PySem.W.mg_of X G a_law)
  cases e
  have b_int := PySem.W.mg_none_of X G n_int
  have b_bool := PySem.W.mg_none_of X G n_bool
  have b_str := PySem.W.mg_none_of X G n_str
  have b_isinstance := PySem.W.mg_none_of X G n_isinstance
  have b_tuple := PySem.W.mg_none_of X G n_tuple
  have b_len := PySem.W.mg_none_of X G n_len
  have b_all := PySem.W.mg_none_of X G n_all
  have b_range := PySem.W.mg_none_of X G n_range
  have b_max := PySem.W.mg_none_of X G n_max
  have b_min := PySem.W.mg_none_of X G n_min
  have b_divmod := PySem.W.mg_none_of X G n_divmod
  have b_ValueError := PySem.W.mg_none_of X G n_ValueError
  have F_lwh := fun_mk (st := top 26) l_lwh c_lwh k_lwh
  have D_lwh : Def K mg "_law_whole" (top 26) ["found"] ⟨f_lwh, _⟩ := ⟨F_lwh, PySem.W.mg_of X G a_lwh, F_lwh.binds (ps := ["found"]) fun _ _ _ _ _ _ us hl => by obtain ⟨_, rfl⟩ := len1 hl; rfl⟩
  have F_draw := fun_mk (st := top 27) l_draw c_draw k_draw
  have D_draw : Def K mg "_law_draw" (top 27) ["draws", "many"] ⟨f_draw, _⟩ := ⟨F_draw, PySem.W.mg_of X G a_draw, F_draw.binds (ps := ["draws", "many"]) fun _ _ _ _ _ _ us hl => by obtain ⟨_, _, rfl⟩ := len2 hl; rfl⟩
  have F_draws := fun_mk (st := top 29) l_draws c_draws k_draws
  have D_draws : Def K mg "_law_draws" (top 29) ["script", "k"] ⟨f_draws, _⟩ := ⟨F_draws, PySem.W.mg_of X G a_draws, F_draws.binds (ps := ["script", "k"]) fun _ _ _ _ _ _ us hl => by obtain ⟨_, _, rfl⟩ := len2 hl; rfl⟩
  have F_kind := fun_mk (st := top 23) l_kind c_kind k_kind
  have D_kind : Def K mg "_law_kind" (top 23) ["e"] ⟨f_kind, _⟩ := ⟨F_kind, PySem.W.mg_of X G a_kind, F_kind.binds (ps := ["e"]) fun _ _ _ _ _ _ us hl => by obtain ⟨_, rfl⟩ := len1 hl; rfl⟩
  have F_fo := fun_mk (st := top 16) l_fo c_fo k_fo
  have D_fo : Def K mg "figures_of" (top 16) ["number"] ⟨f_fo, _⟩ := ⟨F_fo, PySem.W.mg_of X G a_fo, F_fo.binds (ps := ["number"]) fun _ _ _ _ _ _ us hl => by obtain ⟨_, rfl⟩ := len1 hl; rfl⟩
  have F_nt := fun_mk (st := top 17) l_nt c_nt k_nt
  have D_nt : Def K mg "number_text" (top 17) ["number"] ⟨f_nt, _⟩ := ⟨F_nt, PySem.W.mg_of X G a_nt, F_nt.binds (ps := ["number"]) fun _ _ _ _ _ _ us hl => by obtain ⟨_, rfl⟩ := len1 hl; rfl⟩
  have F_tt := fun_mk (st := top 18) l_tt c_tt k_tt
  have D_tt : Def K mg "table_text" (top 18) ["table"] ⟨f_tt, _⟩ := ⟨F_tt, PySem.W.mg_of X G a_tt, F_tt.binds (ps := ["table"]) fun _ _ _ _ _ _ us hl => by obtain ⟨_, rfl⟩ := len1 hl; rfl⟩
  have F_fig := fun_mk (st := top 19) l_fig c_fig k_fig
  have D_fig : Def K mg "is_figures" (top 19) ["text"] ⟨f_fig, _⟩ := ⟨F_fig, PySem.W.mg_of X G a_fig, F_fig.binds (ps := ["text"]) fun _ _ _ _ _ _ us hl => by obtain ⟨_, rfl⟩ := len1 hl; rfl⟩
  have F_int := fun_mk (st := top 20) l_int c_int k_int
  have D_int : Def K mg "is_number_text" (top 20) ["text"] ⟨f_int, _⟩ := ⟨F_int, PySem.W.mg_of X G a_int, F_int.binds (ps := ["text"]) fun _ _ _ _ _ _ us hl => by obtain ⟨_, rfl⟩ := len1 hl; rfl⟩
  have F_read := fun_mk (st := top 21) l_read c_read k_read
  have D_read : Def K mg "read_table" (top 21) ["text"] ⟨f_read, _⟩ := ⟨F_read, PySem.W.mg_of X G a_read, F_read.binds (ps := ["text"]) fun _ _ _ _ _ _ us hl => by obtain ⟨_, rfl⟩ := len1 hl; rfl⟩
  have F_fi := fun_mk (st := top 24) l_fi c_fi k_fi
  have D_fi : Def K mg "_law_figures_in" (top 24) ["word"] ⟨f_fi, _⟩ := ⟨F_fi, PySem.W.mg_of X G a_fi, F_fi.binds (ps := ["word"]) fun _ _ _ _ _ _ us hl => by obtain ⟨_, rfl⟩ := len1 hl; rfl⟩
  have F_lr := fun_mk (st := top 25) l_lr c_lr k_lr
  have D_lr : Def K mg "_law_read_table" (top 25) ["text"] ⟨f_lr, _⟩ := ⟨F_lr, PySem.W.mg_of X G a_lr, F_lr.binds (ps := ["text"]) fun _ _ _ _ _ _ us hl => by obtain ⟨_, rfl⟩ := len1 hl; rfl⟩
  have F_sh := fun_mk (st := top 31) l_sh c_sh k_sh
  have D_sh : Def K mg "_law_shown" (top 31) ["table"] ⟨f_sh, _⟩ := ⟨F_sh, PySem.W.mg_of X G a_sh, F_sh.binds (ps := ["table"]) fun _ _ _ _ _ _ us hl => by obtain ⟨_, rfl⟩ := len1 hl; rfl⟩
  have F_told := fun_mk (st := top 33) l_told c_told k_told
  have D_told : Def K mg "_law_told" (top 33) ["thing"] ⟨f_told, _⟩ := ⟨F_told, PySem.W.mg_of X G a_told, F_told.binds (ps := ["thing"]) fun _ _ _ _ _ _ us hl => by obtain ⟨_, rfl⟩ := len1 hl; rfl⟩
  have F_right := fun_mk (st := top 34) l_right c_right k_right
  have D_right : Def K mg "_law_right" (top 34) ["thing"] ⟨f_right, _⟩ := ⟨F_right, PySem.W.mg_of X G a_right, F_right.binds (ps := ["thing"]) fun _ _ _ _ _ _ us hl => by obtain ⟨_, rfl⟩ := len1 hl; rfl⟩
  have F_bent := fun_mk (st := top 28) l_bent c_bent k_bent
  have D_bent : Def K mg "_law_bent" (top 28) ["text", "draws"] ⟨f_bent, _⟩ := ⟨F_bent, PySem.W.mg_of X G a_bent, F_bent.binds (ps := ["text", "draws"]) fun _ _ _ _ _ _ us hl => by obtain ⟨_, _, rfl⟩ := len2 hl; rfl⟩
  have F_num := fun_mk (st := top 30) l_num c_num k_num
  have D_num : Def K mg "_law_number" (top 30) ["draws"] ⟨f_num, _⟩ := ⟨F_num, PySem.W.mg_of X G a_num, F_num.binds (ps := ["draws"]) fun _ _ _ _ _ _ us hl => by obtain ⟨_, rfl⟩ := len1 hl; rfl⟩
  have F_thing := fun_mk (st := top 32) l_thing c_thing k_thing
  have D_thing : Def K mg "_law_thing" (top 32) ["draws", "deep"] ⟨f_thing, _⟩ := ⟨F_thing, PySem.W.mg_of X G a_thing, F_thing.binds (ps := ["draws", "deep"]) fun _ _ _ _ _ _ us hl => by obtain ⟨_, _, rfl⟩ := len2 hl; rfl⟩
  have F_spo := fun_mk (st := top 35) l_spo c_spo k_spo
  have D_spo : Def K mg "_law_spoilt" (top 35) ["text", "draws"] ⟨f_spo, _⟩ := ⟨F_spo, PySem.W.mg_of X G a_spo, F_spo.binds (ps := ["text", "draws"]) fun _ _ _ _ _ _ us hl => by obtain ⟨_, _, rfl⟩ := len2 hl; rfl⟩
  have F_law := fun_mk (st := top 36) l_law c_law k_law
  have D_law : Def K mg "law" (top 36) ["script"] ⟨fa, _⟩ := ⟨F_law, PySem.W.mg_of X G a_law, F_law.binds (ps := ["script"]) fun _ _ _ _ _ _ us hl => by obtain ⟨_, rfl⟩ := len1 hl; rfl⟩
  have M : Cls mg [q0, q1, q2, q3, q4, q5, q6, q7, q8, q9, q10] := ⟨PySem.W.mg_of X G e_NoBack, PySem.W.mg_of X G e_NoCount, PySem.W.mg_of X G e_NoMakers, PySem.W.mg_of X G e_NoName, PySem.W.mg_of X G e_NoPlain, PySem.W.mg_of X G e_NoRow, PySem.W.mg_of X G e_NoText, PySem.W.mg_of X G e_NoWide, PySem.W.mg_of X G e_NoWord, PySem.W.mg_of X G e_TooLong, PySem.W.mg_of X G e_NoMill, b_isinstance, b_range, b_ValueError⟩
  have Er_NoText : Err1 K [q0, q1, q2, q3, q4, q5, q6, q7, q8, q9, q10] qe q6 6 := ⟨x_NoText, sb_NoText, ⟨ga_NoText, gt_NoText, ca_NoText, gn, tk, mo_NoText, mb_NoText, by rw [ci_NoText]; rfl⟩, o0_NoText, o1_NoText, o2_NoText, o3_NoText, o4_NoText, o5_NoText, o6_NoText, o7_NoText, o8_NoText, o9_NoText, o10_NoText, o11_NoText⟩
  have m_NoText := PySem.W.mg_of X G e_NoText
  have m_QuadError := PySem.W.mg_of X G e_QuadError
  refine ⟨PySem.W.fnOf "law" "law" (defArgs (top 36)) (defBody (top 36)) (defScope (top 36)) .none kV_law dc_law pm_law an_law cd_law ct_law, fun s v => .of_eq rfl, fun base _ _ => ?_⟩
  have G_lwh := ok_lwhole (P := l.prog) (w := w) (base := base) D_lwh b_int b_bool b_isinstance
  have G_draw := ok_draw (P := l.prog) (w := w) (base := base) D_draw
  have G_draws := ok_draws (P := l.prog) (w := w) (base := base) D_draws b_len b_int
  have G_kind := ok_kind (P := l.prog) (w := w) (base := base) M D_kind
  have G_fo := ok_fo (P := l.prog) (w := w) (base := base) D_fo b_divmod b_str
  have G_nt := ok_nt D_fo G_fo D_nt
  have G_tt := ok_tt D_nt G_nt D_tt
  have G_fig := ok_fig (P := l.prog) (w := w) (base := base) (PySem.W.mg_of X G e_FIG) (PySem.W.mg_of X G e_MF) D_fig b_len
  have G_int := ok_int D_fig G_fig D_int
  have G_read := ok_read m_NoText x_NoText D_int G_int D_read b_len b_str b_int b_tuple b_all b_isinstance
  have G_fi := ok_fi (P := l.prog) (w := w) (base := base) D_fi b_len b_int
  have G_lr := ok_lr D_fi G_fi D_lr b_len b_tuple
  have G_sh := ok_sh (P := l.prog) (w := w) (base := base) D_sh b_str
  have G_told := ok_told m_QuadError x_QuadError Er_NoText D_read G_read D_kind G_kind D_told
  have G_right := ok_right D_lr G_lr D_told G_told D_lwh G_lwh D_right b_str b_tuple b_isinstance
  have G_bent := ok_bent D_draw G_draw D_bent b_len
  have G_num := ok_num D_draw G_draw D_num b_range
  have G_thing := ok_thing (n := 3) D_draw G_draw D_thing b_range b_int b_tuple (ok_thing (n := 2) D_draw G_draw D_thing b_range b_int b_tuple (ok_thing (n := 1) D_draw G_draw D_thing b_range b_int b_tuple (ok_thing (n := 0) D_draw G_draw D_thing b_range b_int b_tuple thing0)))
  have G_spo := ok_spo D_draw G_draw D_bent G_bent D_spo b_len
  have Al : All l.prog w K mg base ⟨⟨f_draws, _⟩, ⟨f_num, _⟩, ⟨f_tt, _⟩, ⟨f_sh, _⟩, ⟨f_right, _⟩, ⟨f_spo, _⟩, ⟨f_thing, _⟩⟩ :=
    ⟨D_draws, D_num, D_tt, D_sh, D_right, D_spo, D_thing, G_draws, G_num, G_tt, G_sh, G_right, G_spo, G_thing, b_range, b_max, b_min, b_len, b_isinstance, b_tuple, b_str⟩
  exact ok_law Al D_law
theorem walk {l : PySem.W.OpenLaw} {q : Program} {loose : List Str} {XP : (Str → Option Value) → Heap → Prop} {YP : World → Heap → Prop} {d : DefRec} {K : Params → PySem.W.Frag} (hn : l.most = some 63) (hdf : d.params.defaults = [])
    (hY : ∀ (w : World) (h : Heap), YP w h → (K w.params).In h)
    (F : ∀ (w : World) (mg : Str → Option Value) (fa : Addr) (h : Heap), (K w.params).In h → h.Ns mainGlobals mg → mg d.name = some (.ref fa) →
      ∃ fd : FuncData, (∀ (s : Shared) (u : Value), BindsTo s fd ⟨[u], []⟩ [("script", u)]) ∧ ∀ base : Heap, (K w.params).In base → base.Ns mainGlobals mg → FnOk l.prog w (K w.params) mg base CX0 7 fa fd ["script"] (spLaw (K w.params))) :
    PySem.W.WalkO q loose XP YP l.row.toRowW d [] (fun f vs => PySem.call f vs) :=
  L2.walk_of (n := 63) (k := 7) (x := "script") (CX := fun _ => CX0) (sp := fun w => spLaw (K w.params)) hn (by decide) hdf ⟨rfl, by decide, by decide⟩ hY F (fun _ _ a ns hl _ hS => ⟨a, ns, rfl, hS, hl, fun _ => rfl⟩) fun _ _ _ _ _ z => z
end K3
end
section
set_option linter.all false
set_option Elab.async false
namespace Hd
open PySem PySem.W PyProof.Rows
def run (den : Code → Sem Fin) (ok : Nat → Option Value → Thread → Bool) (st : (Code → Sem Fin) → Program → World → SharedT → Thread → Option (SharedT × Thread)) (p : Program) (w : World) (m : Nat) (ann : Option Value) : Nat → SharedT → Thread → Option SharedT
  | 0, _, _ => none
  | n + 1, s, t => match through t with
    | true => some s
    | false => match ok m ann t with
      | false => none
      | true => match st den p w s t with
        | some r => run den ok st p w m ann n r.1 r.2
        | none => none
theorem run_of {tb : String → Option Builtin} {p : Program} {w : World} {m : Nat} {ann : Option Value} : ∀ {n : Nat} {s r : SharedT} {t : Thread}, run (denote tb) stepOk stepT p w m ann n s t = some r → topRun tb p w m ann n s.abs t = some r.abs
  | 0, _, _, _, h => by cases h
  | n + 1, s, r, t, h => by
    unfold run at h
    unfold topRun
    cases ht : through t with
    | true => rw [ht] at h; cases h; rfl
    | false =>
      rw [ht] at h
      cases hk : stepOk m ann t with
      | false => rw [hk] at h; cases h
      | true =>
        rw [hk] at h
        cases hs : stepT (denote tb) p w s t with
        | none => rw [hs] at h; cases h
        | some r => rw [hs] at h; rw [stepT_spec hs]; exact run_of h
def grow : List Obj → Nat → BT → BT
  | [], _, t => t
  | o :: l, n, t => grow l (n + 1) (t.ins n o)
noncomputable def bootT (P : Params) : BT := grow (boot_heap P).objs.toList 0 .nil
noncomputable abbrev first (w : World) (os : OsState) : SharedT := ⟨bootT w.params, (boot_heap w.params).objs.size, (boot_heap w.params).life, #[], boot_drawn, boot_toks, os⟩
theorem first_abs (w : World) (os : OsState) : (first w os).abs = ⟨boot_heap w.params, #[], boot_drawn, boot_toks, os⟩ := by kernel_rfl
noncomputable def annOf (P : Params) : Option Value := (boot_heap P).nsMap mainGlobals "__annotations__"
noncomputable def looks (seenF : Program → List Str → List Str → (Shared → Bool) → Bool → Shared → _) (p q : Program) (loose : List Str) (Xt : Shared → Bool) (as : List Addr) (h : Heap) (s : Shared) :=
  ((staticsOk (importedModules p.main.body) h s.heap && namesBound p s.heap && gensDone s && laidKept h s.heap), (seenF q loose (importedModules p.main.body) Xt true s : type_of% (openSeen q loose (importedModules p.main.body) Xt true s)), as.map s.heap.get?)
abbrev Goal (den : Code → Sem Fin) (ok : Nat → Option Value → Thread → Bool) (st : (Code → Sem Fin) → Program → World → SharedT → Thread → Option (SharedT × Thread))
    (seenF : (q : Program) → (loose mods : List Str) → (Xt : Shared → Bool) → Bool → (s : Shared) → type_of% (openSeen q loose mods Xt true s)) (p q : Program) (loose : List Str) (Xt : Shared → Bool) (K : Params → Frag) (as : List Addr) (N : Nat) (w : World) : Prop :=
  (fun os => (run den ok st p w (boot_heap w.params).objs.size (annOf w.params) N (first w os) (topStub p)).map fun s => looks seenF p q loose Xt as (boot_heap w.params) s.abs) = fun _ => some (true, openGood q loose, (K w.params).map fun x => some x.2)
theorem left {p q : Program} {loose : List Str} {Xt : Shared → Bool} {K : Params → Frag} {as : List Addr} {N : Nat} (e : opening p = plainProg p.main.scope.names) (hN : Nat.ble 600 N = true) (f : ∀ s, fenceModules? p s = some s)
    (size : ∀ P : Params, (boot_heap P).isNs mainGlobals = true) (key : ∀ w, Goal (denote treeTable) stepOk stepT openSeen p q loose Xt K as N w) :
    LeftO p q loose Xt (fun s => as.map s.heap.get?) (fun w => (K w.params).map fun x => some x.2) N true := fun w => by
  obtain ⟨⟨h, gs, d, k, os⟩, e1, e2⟩ := Option.map_eq_some_iff.mp (boot_open (p := p) (N := N) e hN f w)
  obtain ⟨rfl, rfl, rfl, rfl⟩ : h = boot_heap w.params ∧ gs = Array.mk [] ∧ d = boot_drawn ∧ k = boot_toks := by simpa using e2
  obtain ⟨s, r, l⟩ := Option.map_eq_some_iff.mp (congrFun (key w) os)
  have r' := run_of r
  rw [first_abs] at r'
  unfold looks at l
  obtain ⟨l1, l2, l3⟩ : _ ∧ _ ∧ _ := by simpa only [Prod.mk.injEq] using l
  have t : topFrom treeTable p w N ⟨boot_heap w.params, #[], boot_drawn, boot_toks, os⟩ = some s.abs := by
    unfold topFrom
    dsimp only
    rw [size w.params]
    show (topRun treeTable p w (boot_heap w.params).objs.size (annOf w.params) N _ _).bind _ = _
    rw [r']
    show (match staticsOk (importedModules p.main.body) (boot_heap w.params) s.abs.heap && namesBound p s.abs.heap && gensDone s.abs && laidKept (boot_heap w.params) s.abs.heap with | true => _ | false => _) = _
    rw [l1]
  unfold openEnds
  rw [e1]
  show (topFrom treeTable p w N _).map _ = _
  rw [t]
  exact congrArg some (Prod.ext l2 l3)
noncomputable abbrev en (P : Params) (x : Str) (t : Tok) (v : Value) : DictEntry := ⟨PyData.keyHash P x, .str x t, v⟩
noncomputable abbrev dn := PySem.W.Fast.tw11892475500146522536 PySem.W.Fast.tw14364793385576792824
abbrev GoalQ (p q : Program) (loose : List Str) (Xt : Shared → Bool) (K : Params → Frag) (as : List Addr) (N : Nat) (w : World) : Prop := Goal dn PySem.W.Fast.tw6613529449190102663 PySem.W.Fast.tw10156331382660048174 PySem.W.Fast.tw4187177175401517315 p q loose Xt K as N w
theorem key1 {p q : Program} {loose : List Str} {Xt : Shared → Bool} {K : Params → Frag} {as : List Addr} {N : Nat} (h : ∀ w : World, GoalQ p q loose Xt K as N w) : ∀ w, Goal (denote treeTable) stepOk stepT openSeen p q loose Xt K as N w := fun w => by
  rw [PySem.W.Fast.te10156331382660048174, PySem.W.Fast.te11892475500146522536, PySem.W.Fast.te14364793385576792824, PySem.W.Fast.te6613529449190102663, PySem.W.Fast.te4187177175401517315]
  exact h w
abbrev xt (l : OpenLaw) (q : Program) (s : Shared) : Bool := xlAt q [] s && recOk (RowW.records l.row.toRowW) s
theorem bootNs (P : Params) : (boot_heap P).isNs mainGlobals = true := by kernel_rfl
theorem head {l : OpenLaw} {q : Program} {loose : List Str} {K : Params → Frag} {as : List Addr} {N : Nat} {d : DefRec} (said : l.wellSaid = true) (e : opening l.prog = plainProg l.prog.main.scope.names) (hN : Nat.ble 600 N = true) (f : ∀ s, fenceModules? l.prog s = some s)
    (key : ∀ w, Goal (denote treeTable) stepOk stepT openSeen l.prog q loose (xt l q) K as N w) (hK : ∀ P, as = (K P).map (·.1))
    (hdef : defOf q l.row.name = some (d, [])) (hp : l.row.prog.theDef l.row.name = some (d.params, d.body, d.scope)) (hk : kwWritten? d.params.kwonlyargs d.params.kw_defaults = some []) (hwr : (!l.row.writes || l.row.records.isEmpty) = true)
    (ok : (chainsOk q && opensWell l.row.prog && (frees l.row.toRowW && l.row.within.isEmpty)) = true) (hb : l.row.prog.bare) (hw : l.row.toRowW.promised)
    (call : WalkO q loose (XL q []) (InK K) l.row.toRowW d [] fun f vs => PySem.call f vs) : l.Holds :=
  holds_law said fun k1 => holds_open (Xt := xt l q) (left e hN f bootNs key) (InK.of hK) InK.keeps (fun s e => xl_of s (Bool.and_eq_true_iff.mp e).1) XL.keeps hdef hp hk (fun s e => recFacts_of (Bool.and_eq_true_iff.mp e).2) hwr k1 ok hb hw call
end Hd
end
section
set_option linter.all false
set_option Elab.async false
namespace Hd
open PySem PySem.W PyProof.Rows L2 K3
abbrev pw := PySem.Challenge.pw_quadwords_k51_tables_written
def loose : List Str := []
def keep : List Nat := [1, 2, 3, 4, 5, 6, 7, 8, 9, 10, 11, 12, 14, 15, 16, 17, 18, 19, 20, 21, 23, 24, 25, 26, 27, 28, 29, 30, 31, 32, 33, 34, 35, 36]
noncomputable def o3 (P : Params) : Obj := ⟨(.type "dict"), none, (.dict #[(en P "__name__" 165 (.str "law_quadwords_k51_tables_written" 431)), (en P "__doc__" 166 .none), (en P "__package__" 167 .none), (en P "__loader__" 168 (.builtin "__main__.__loader__#opaque")), (en P "__spec__" 169 .none), (en P "__annotations__" 170 (.ref 6)), (en P "__builtins__" 171 (.ref 4)), (en P "__file__" 173 (.str "/claim/cut.py" 172)), (en P "__cached__" 174 .none), (en P "QuadError" 206 (.ref 24)), (en P "NoBack" 222 (.ref 37)), (en P "NoWord" 238 (.ref 49)), (en P "NoPlain" 254 (.ref 61)), (en P "NoWide" 270 (.ref 73)), (en P "TooLong" 286 (.ref 85)), (en P "NoMakers" 302 (.ref 97)), (en P "NoCount" 318 (.ref 109)), (en P "NoText" 334 (.ref 121)), (en P "NoName" 350 (.ref 133)), (en P "NoRow" 366 (.ref 145)), (en P "NoMill" 382 (.ref 157)), (en P "FIGURES" 386 (.str "0123456789" 385)), (en P "MOST_FIGURES" 388 (.int (200) 387)), (en P "figures_of" 397 (.ref 166)), (en P "number_text" 404 (.ref 173)), (en P "table_text" 410 (.ref 178)), (en P "is_figures" 417 (.ref 185)), (en P "is_number_text" 424 (.ref 192)), (en P "read_table" 430 (.ref 197)), (en P "_law_kind" 438 (.ref 202)), (en P "_law_figures_in" 444 (.ref 207)), (en P "_law_read_table" 450 (.ref 212)), (en P "_law_whole" 457 (.ref 219)), (en P "_law_draw" 466 (.ref 226)), (en P "_law_bent" 478 (.ref 233)), (en P "_law_draws" 489 (.ref 240)), (en P "_law_number" 498 (.ref 247)), (en P "_law_shown" 504 (.ref 252)), (en P "_law_thing" 510 (.ref 257)), (en P "_law_told" 520 (.ref 264)), (en P "_law_right" 526 (.ref 269)), (en P "_law_spoilt" 538 (.ref 276)), (en P "law" 544 (.ref 281))] 43), #[]⟩
noncomputable def o23 (P : Params) : Obj := ⟨(.type "dict"), none, (.dict #[(en P "__module__" 196 (.str "quadwords.errors" 187)), (en P "__firstlineno__" 200 (.int (2) 199)), (en P "__static_attributes__" 201 (.ref 22)), (en P "__weakref__" 203 (.ref 25)), (en P "__doc__" 204 .none)] 3), #[]⟩
noncomputable def o24 (P : Params) : Obj := ⟨(.type "type"), none, (.cls ⟨"QuadError", [(.type "ValueError")], [(.ref 24), (.type "ValueError"), (.type "Exception"), (.type "BaseException"), (.type "object")], 23, "QuadError", true, [], [(.ref 37), (.ref 49), (.ref 61), (.ref 73), (.ref 85), (.ref 97), (.ref 109), (.ref 121), (.ref 133), (.ref 145), (.ref 157)], false, none, false⟩), #[(some (.ref 15)), none, (some (.str "QuadError" 189)), (some (.str "QuadError" 197)), (some (.builtin "ValueError.__new__")), (some (.bool true))]⟩
noncomputable def o36 (P : Params) : Obj := ⟨(.type "dict"), none, (.dict #[(en P "__module__" 214 (.str "quadwords.errors" 187)), (en P "__firstlineno__" 218 (.int (4) 217)), (en P "__static_attributes__" 219 (.ref 35)), (en P "__doc__" 220 .none)] 2), #[]⟩
noncomputable def o37 (P : Params) : Obj := ⟨(.type "type"), none, (.cls ⟨"NoBack", [(.ref 24)], [(.ref 37), (.ref 24), (.type "ValueError"), (.type "Exception"), (.type "BaseException"), (.type "object")], 36, "NoBack", true, [], [], false, none, false⟩), #[(some (.ref 28)), none, (some (.str "NoBack" 207)), (some (.str "NoBack" 215)), (some (.builtin "ValueError.__new__")), (some (.bool true))]⟩
noncomputable def o48 (P : Params) : Obj := ⟨(.type "dict"), none, (.dict #[(en P "__module__" 230 (.str "quadwords.errors" 187)), (en P "__firstlineno__" 234 (.int (6) 233)), (en P "__static_attributes__" 235 (.ref 47)), (en P "__doc__" 236 .none)] 2), #[]⟩
noncomputable def o49 (P : Params) : Obj := ⟨(.type "type"), none, (.cls ⟨"NoWord", [(.ref 24)], [(.ref 49), (.ref 24), (.type "ValueError"), (.type "Exception"), (.type "BaseException"), (.type "object")], 48, "NoWord", true, [], [], false, none, false⟩), #[(some (.ref 40)), none, (some (.str "NoWord" 223)), (some (.str "NoWord" 231)), (some (.builtin "ValueError.__new__")), (some (.bool true))]⟩
noncomputable def o60 (P : Params) : Obj := ⟨(.type "dict"), none, (.dict #[(en P "__module__" 246 (.str "quadwords.errors" 187)), (en P "__firstlineno__" 250 (.int (8) 249)), (en P "__static_attributes__" 251 (.ref 59)), (en P "__doc__" 252 .none)] 2), #[]⟩
noncomputable def o61 (P : Params) : Obj := ⟨(.type "type"), none, (.cls ⟨"NoPlain", [(.ref 24)], [(.ref 61), (.ref 24), (.type "ValueError"), (.type "Exception"), (.type "BaseException"), (.type "object")], 60, "NoPlain", true, [], [], false, none, false⟩), #[(some (.ref 52)), none, (some (.str "NoPlain" 239)), (some (.str "NoPlain" 247)), (some (.builtin "ValueError.__new__")), (some (.bool true))]⟩
noncomputable def o72 (P : Params) : Obj := ⟨(.type "dict"), none, (.dict #[(en P "__module__" 262 (.str "quadwords.errors" 187)), (en P "__firstlineno__" 266 (.int (10) 265)), (en P "__static_attributes__" 267 (.ref 71)), (en P "__doc__" 268 .none)] 2), #[]⟩
noncomputable def o73 (P : Params) : Obj := ⟨(.type "type"), none, (.cls ⟨"NoWide", [(.ref 24)], [(.ref 73), (.ref 24), (.type "ValueError"), (.type "Exception"), (.type "BaseException"), (.type "object")], 72, "NoWide", true, [], [], false, none, false⟩), #[(some (.ref 64)), none, (some (.str "NoWide" 255)), (some (.str "NoWide" 263)), (some (.builtin "ValueError.__new__")), (some (.bool true))]⟩
noncomputable def o84 (P : Params) : Obj := ⟨(.type "dict"), none, (.dict #[(en P "__module__" 278 (.str "quadwords.errors" 187)), (en P "__firstlineno__" 282 (.int (12) 281)), (en P "__static_attributes__" 283 (.ref 83)), (en P "__doc__" 284 .none)] 2), #[]⟩
noncomputable def o85 (P : Params) : Obj := ⟨(.type "type"), none, (.cls ⟨"TooLong", [(.ref 24)], [(.ref 85), (.ref 24), (.type "ValueError"), (.type "Exception"), (.type "BaseException"), (.type "object")], 84, "TooLong", true, [], [], false, none, false⟩), #[(some (.ref 76)), none, (some (.str "TooLong" 271)), (some (.str "TooLong" 279)), (some (.builtin "ValueError.__new__")), (some (.bool true))]⟩
noncomputable def o96 (P : Params) : Obj := ⟨(.type "dict"), none, (.dict #[(en P "__module__" 294 (.str "quadwords.errors" 187)), (en P "__firstlineno__" 298 (.int (14) 297)), (en P "__static_attributes__" 299 (.ref 95)), (en P "__doc__" 300 .none)] 2), #[]⟩
noncomputable def o97 (P : Params) : Obj := ⟨(.type "type"), none, (.cls ⟨"NoMakers", [(.ref 24)], [(.ref 97), (.ref 24), (.type "ValueError"), (.type "Exception"), (.type "BaseException"), (.type "object")], 96, "NoMakers", true, [], [], false, none, false⟩), #[(some (.ref 88)), none, (some (.str "NoMakers" 287)), (some (.str "NoMakers" 295)), (some (.builtin "ValueError.__new__")), (some (.bool true))]⟩
noncomputable def o108 (P : Params) : Obj := ⟨(.type "dict"), none, (.dict #[(en P "__module__" 310 (.str "quadwords.errors" 187)), (en P "__firstlineno__" 314 (.int (16) 313)), (en P "__static_attributes__" 315 (.ref 107)), (en P "__doc__" 316 .none)] 2), #[]⟩
noncomputable def o109 (P : Params) : Obj := ⟨(.type "type"), none, (.cls ⟨"NoCount", [(.ref 24)], [(.ref 109), (.ref 24), (.type "ValueError"), (.type "Exception"), (.type "BaseException"), (.type "object")], 108, "NoCount", true, [], [], false, none, false⟩), #[(some (.ref 100)), none, (some (.str "NoCount" 303)), (some (.str "NoCount" 311)), (some (.builtin "ValueError.__new__")), (some (.bool true))]⟩
noncomputable def o120 (P : Params) : Obj := ⟨(.type "dict"), none, (.dict #[(en P "__module__" 326 (.str "quadwords.errors" 187)), (en P "__firstlineno__" 330 (.int (18) 329)), (en P "__static_attributes__" 331 (.ref 119)), (en P "__doc__" 332 .none)] 2), #[]⟩
noncomputable def o121 (P : Params) : Obj := ⟨(.type "type"), none, (.cls ⟨"NoText", [(.ref 24)], [(.ref 121), (.ref 24), (.type "ValueError"), (.type "Exception"), (.type "BaseException"), (.type "object")], 120, "NoText", true, [], [], false, none, false⟩), #[(some (.ref 112)), none, (some (.str "NoText" 319)), (some (.str "NoText" 327)), (some (.builtin "ValueError.__new__")), (some (.bool true))]⟩
noncomputable def o132 (P : Params) : Obj := ⟨(.type "dict"), none, (.dict #[(en P "__module__" 342 (.str "quadwords.errors" 187)), (en P "__firstlineno__" 346 (.int (20) 345)), (en P "__static_attributes__" 347 (.ref 131)), (en P "__doc__" 348 .none)] 2), #[]⟩
noncomputable def o133 (P : Params) : Obj := ⟨(.type "type"), none, (.cls ⟨"NoName", [(.ref 24)], [(.ref 133), (.ref 24), (.type "ValueError"), (.type "Exception"), (.type "BaseException"), (.type "object")], 132, "NoName", true, [], [], false, none, false⟩), #[(some (.ref 124)), none, (some (.str "NoName" 335)), (some (.str "NoName" 343)), (some (.builtin "ValueError.__new__")), (some (.bool true))]⟩
noncomputable def o144 (P : Params) : Obj := ⟨(.type "dict"), none, (.dict #[(en P "__module__" 358 (.str "quadwords.errors" 187)), (en P "__firstlineno__" 362 (.int (22) 361)), (en P "__static_attributes__" 363 (.ref 143)), (en P "__doc__" 364 .none)] 2), #[]⟩
noncomputable def o145 (P : Params) : Obj := ⟨(.type "type"), none, (.cls ⟨"NoRow", [(.ref 24)], [(.ref 145), (.ref 24), (.type "ValueError"), (.type "Exception"), (.type "BaseException"), (.type "object")], 144, "NoRow", true, [], [], false, none, false⟩), #[(some (.ref 136)), none, (some (.str "NoRow" 351)), (some (.str "NoRow" 359)), (some (.builtin "ValueError.__new__")), (some (.bool true))]⟩
noncomputable def o156 (P : Params) : Obj := ⟨(.type "dict"), none, (.dict #[(en P "__module__" 374 (.str "quadwords.errors" 187)), (en P "__firstlineno__" 378 (.int (24) 377)), (en P "__static_attributes__" 379 (.ref 155)), (en P "__doc__" 380 .none)] 2), #[]⟩
noncomputable def o157 (P : Params) : Obj := ⟨(.type "type"), none, (.cls ⟨"NoMill", [(.ref 24)], [(.ref 157), (.ref 24), (.type "ValueError"), (.type "Exception"), (.type "BaseException"), (.type "object")], 156, "NoMill", true, [], [], false, none, false⟩), #[(some (.ref 148)), none, (some (.str "NoMill" 367)), (some (.str "NoMill" 375)), (some (.builtin "ValueError.__new__")), (some (.bool true))]⟩
noncomputable def o165 (P : Params) : Obj := ⟨(.type "code"), none, (.fields #[(.str "figures_of" 389), (.str "figures_of" 390), (.str "/claim/cut.py" 391), (.int (29) 0), (.int (1) 0), (.int (0) 0), (.int (0) 0), (.int (3) 0), (.ref 160), (.bool true), (.int (181) 0), (.ref 161), .none, (.ref 162), (.ref 163), (.ref 164), (.int (395) 0), (.int (29) 0), (.str "/claim/cut.py" 396)]), #[]⟩
noncomputable def o166 (P : Params) : Obj := ⟨(.type "function"), none, (.func (PySem.W.fnOf "figures_of" "figures_of" (defArgs (top 16)) (defBody (top 16)) (defScope (top 16)) .none .none .none (.str "quadwords.texts" 383) none (.ref 165) .none)), #[]⟩
noncomputable def o172 (P : Params) : Obj := ⟨(.type "code"), none, (.fields #[(.str "number_text" 398), (.str "number_text" 399), (.str "/claim/cut.py" 400), (.int (36) 0), (.int (1) 0), (.int (0) 0), (.int (0) 0), (.int (3) 0), (.ref 167), (.bool true), (.int (181) 0), (.ref 168), .none, (.ref 169), (.ref 170), (.ref 171), (.int (402) 0), (.int (36) 0), (.str "/claim/cut.py" 403)]), #[]⟩
noncomputable def o173 (P : Params) : Obj := ⟨(.type "function"), none, (.func (PySem.W.fnOf "number_text" "number_text" (defArgs (top 17)) (defBody (top 17)) (defScope (top 17)) .none .none .none (.str "quadwords.texts" 383) none (.ref 172) .none)), #[]⟩
noncomputable def o177 (P : Params) : Obj := ⟨(.type "code"), none, (.fields #[(.str "table_text" 405), (.str "table_text" 406), (.str "/claim/cut.py" 407), (.int (38) 0), (.int (1) 0), (.int (0) 0), (.int (0) 0), (.int (3) 0), (.ref 174), (.bool true), (.int (181) 0), (.ref 175), .none, .none, .none, (.ref 176), (.int (408) 0), (.int (38) 0), (.str "/claim/cut.py" 409)]), #[]⟩
noncomputable def o178 (P : Params) : Obj := ⟨(.type "function"), none, (.func (PySem.W.fnOf "table_text" "table_text" (defArgs (top 18)) (defBody (top 18)) (defScope (top 18)) .none .none .none (.str "quadwords.texts" 383) none (.ref 177) .none)), #[]⟩
noncomputable def o184 (P : Params) : Obj := ⟨(.type "code"), none, (.fields #[(.str "is_figures" 411), (.str "is_figures" 412), (.str "/claim/cut.py" 413), (.int (40) 0), (.int (1) 0), (.int (0) 0), (.int (0) 0), (.int (3) 0), (.ref 179), (.bool true), (.int (181) 0), (.ref 180), .none, (.ref 181), (.ref 182), (.ref 183), (.int (415) 0), (.int (40) 0), (.str "/claim/cut.py" 416)]), #[]⟩
noncomputable def o185 (P : Params) : Obj := ⟨(.type "function"), none, (.func (PySem.W.fnOf "is_figures" "is_figures" (defArgs (top 19)) (defBody (top 19)) (defScope (top 19)) .none .none .none (.str "quadwords.texts" 383) none (.ref 184) .none)), #[]⟩
noncomputable def o191 (P : Params) : Obj := ⟨(.type "code"), none, (.fields #[(.str "is_number_text" 418), (.str "is_number_text" 419), (.str "/claim/cut.py" 420), (.int (44) 0), (.int (1) 0), (.int (0) 0), (.int (0) 0), (.int (3) 0), (.ref 186), (.bool true), (.int (181) 0), (.ref 187), .none, (.ref 188), (.ref 189), (.ref 190), (.int (422) 0), (.int (44) 0), (.str "/claim/cut.py" 423)]), #[]⟩
noncomputable def o192 (P : Params) : Obj := ⟨(.type "function"), none, (.func (PySem.W.fnOf "is_number_text" "is_number_text" (defArgs (top 20)) (defBody (top 20)) (defScope (top 20)) .none .none .none (.str "quadwords.texts" 383) none (.ref 191) .none)), #[]⟩
noncomputable def o196 (P : Params) : Obj := ⟨(.type "code"), none, (.fields #[(.str "read_table" 425), (.str "read_table" 426), (.str "/claim/cut.py" 427), (.int (46) 0), (.int (1) 0), (.int (0) 0), (.int (0) 0), (.int (3) 0), (.ref 193), (.bool true), (.int (181) 0), (.ref 194), .none, .none, .none, (.ref 195), (.int (428) 0), (.int (46) 0), (.str "/claim/cut.py" 429)]), #[]⟩
noncomputable def o197 (P : Params) : Obj := ⟨(.type "function"), none, (.func (PySem.W.fnOf "read_table" "read_table" (defArgs (top 21)) (defBody (top 21)) (defScope (top 21)) .none .none .none (.str "quadwords.texts" 383) none (.ref 196) .none)), #[]⟩
noncomputable def o201 (P : Params) : Obj := ⟨(.type "code"), none, (.fields #[(.str "_law_kind" 433), (.str "_law_kind" 434), (.str "/claim/cut.py" 435), (.int (54) 0), (.int (1) 0), (.int (0) 0), (.int (0) 0), (.int (3) 0), (.ref 198), (.bool true), (.int (181) 0), (.ref 199), .none, .none, .none, (.ref 200), (.int (436) 0), (.int (54) 0), (.str "/claim/cut.py" 437)]), #[]⟩
noncomputable def o202 (P : Params) : Obj := ⟨(.type "function"), none, (.func (PySem.W.fnOf "_law_kind" "_law_kind" (defArgs (top 23)) (defBody (top 23)) (defScope (top 23)) .none .none .none (.str "law_quadwords_k51_tables_written" 431) none (.ref 201) .none)), #[]⟩
noncomputable def o206 (P : Params) : Obj := ⟨(.type "code"), none, (.fields #[(.str "_law_figures_in" 439), (.str "_law_figures_in" 440), (.str "/claim/cut.py" 441), (.int (61) 0), (.int (1) 0), (.int (0) 0), (.int (0) 0), (.int (3) 0), (.ref 203), (.bool true), (.int (181) 0), (.ref 204), .none, .none, .none, (.ref 205), (.int (442) 0), (.int (61) 0), (.str "/claim/cut.py" 443)]), #[]⟩
noncomputable def o207 (P : Params) : Obj := ⟨(.type "function"), none, (.func (PySem.W.fnOf "_law_figures_in" "_law_figures_in" (defArgs (top 24)) (defBody (top 24)) (defScope (top 24)) .none .none .none (.str "law_quadwords_k51_tables_written" 431) none (.ref 206) .none)), #[]⟩
noncomputable def o211 (P : Params) : Obj := ⟨(.type "code"), none, (.fields #[(.str "_law_read_table" 445), (.str "_law_read_table" 446), (.str "/claim/cut.py" 447), (.int (67) 0), (.int (1) 0), (.int (0) 0), (.int (0) 0), (.int (3) 0), (.ref 208), (.bool true), (.int (181) 0), (.ref 209), .none, .none, .none, (.ref 210), (.int (448) 0), (.int (67) 0), (.str "/claim/cut.py" 449)]), #[]⟩
noncomputable def o212 (P : Params) : Obj := ⟨(.type "function"), none, (.func (PySem.W.fnOf "_law_read_table" "_law_read_table" (defArgs (top 25)) (defBody (top 25)) (defScope (top 25)) .none .none .none (.str "law_quadwords_k51_tables_written" 431) none (.ref 211) .none)), #[]⟩
noncomputable def o218 (P : Params) : Obj := ⟨(.type "code"), none, (.fields #[(.str "_law_whole" 451), (.str "_law_whole" 452), (.str "/claim/cut.py" 453), (.int (70) 0), (.int (1) 0), (.int (0) 0), (.int (0) 0), (.int (3) 0), (.ref 213), (.bool true), (.int (181) 0), (.ref 214), .none, (.ref 215), (.ref 216), (.ref 217), (.int (455) 0), (.int (70) 0), (.str "/claim/cut.py" 456)]), #[]⟩
noncomputable def o219 (P : Params) : Obj := ⟨(.type "function"), none, (.func (PySem.W.fnOf "_law_whole" "_law_whole" (defArgs (top 26)) (defBody (top 26)) (defScope (top 26)) .none .none .none (.str "law_quadwords_k51_tables_written" 431) none (.ref 218) .none)), #[]⟩
noncomputable def o225 (P : Params) : Obj := ⟨(.type "code"), none, (.fields #[(.str "_law_draw" 458), (.str "_law_draw" 459), (.str "/claim/cut.py" 460), (.int (72) 0), (.int (2) 0), (.int (0) 0), (.int (0) 0), (.int (3) 0), (.ref 220), (.bool true), (.int (181) 0), (.ref 221), .none, (.ref 222), (.ref 223), (.ref 224), (.int (464) 0), (.int (72) 0), (.str "/claim/cut.py" 465)]), #[]⟩
noncomputable def o226 (P : Params) : Obj := ⟨(.type "function"), none, (.func (PySem.W.fnOf "_law_draw" "_law_draw" (defArgs (top 27)) (defBody (top 27)) (defScope (top 27)) .none .none .none (.str "law_quadwords_k51_tables_written" 431) none (.ref 225) .none)), #[]⟩
noncomputable def o232 (P : Params) : Obj := ⟨(.type "code"), none, (.fields #[(.str "_law_bent" 467), (.str "_law_bent" 468), (.str "/claim/cut.py" 469), (.int (79) 0), (.int (2) 0), (.int (0) 0), (.int (0) 0), (.int (3) 0), (.ref 227), (.bool true), (.int (181) 0), (.ref 228), .none, (.ref 229), (.ref 230), (.ref 231), (.int (476) 0), (.int (79) 0), (.str "/claim/cut.py" 477)]), #[]⟩
noncomputable def o233 (P : Params) : Obj := ⟨(.type "function"), none, (.func (PySem.W.fnOf "_law_bent" "_law_bent" (defArgs (top 28)) (defBody (top 28)) (defScope (top 28)) .none .none .none (.str "law_quadwords_k51_tables_written" 431) none (.ref 232) .none)), #[]⟩
noncomputable def o239 (P : Params) : Obj := ⟨(.type "code"), none, (.fields #[(.str "_law_draws" 479), (.str "_law_draws" 480), (.str "/claim/cut.py" 481), (.int (90) 0), (.int (2) 0), (.int (0) 0), (.int (0) 0), (.int (3) 0), (.ref 234), (.bool true), (.int (181) 0), (.ref 235), .none, (.ref 236), (.ref 237), (.ref 238), (.int (487) 0), (.int (90) 0), (.str "/claim/cut.py" 488)]), #[]⟩
noncomputable def o240 (P : Params) : Obj := ⟨(.type "function"), none, (.func (PySem.W.fnOf "_law_draws" "_law_draws" (defArgs (top 29)) (defBody (top 29)) (defScope (top 29)) .none .none .none (.str "law_quadwords_k51_tables_written" 431) none (.ref 239) .none)), #[]⟩
noncomputable def o246 (P : Params) : Obj := ⟨(.type "code"), none, (.fields #[(.str "_law_number" 490), (.str "_law_number" 491), (.str "/claim/cut.py" 492), (.int (100) 0), (.int (1) 0), (.int (0) 0), (.int (0) 0), (.int (3) 0), (.ref 241), (.bool true), (.int (181) 0), (.ref 242), .none, (.ref 243), (.ref 244), (.ref 245), (.int (496) 0), (.int (100) 0), (.str "/claim/cut.py" 497)]), #[]⟩
noncomputable def o247 (P : Params) : Obj := ⟨(.type "function"), none, (.func (PySem.W.fnOf "_law_number" "_law_number" (defArgs (top 30)) (defBody (top 30)) (defScope (top 30)) .none .none .none (.str "law_quadwords_k51_tables_written" 431) none (.ref 246) .none)), #[]⟩
noncomputable def o251 (P : Params) : Obj := ⟨(.type "code"), none, (.fields #[(.str "_law_shown" 499), (.str "_law_shown" 500), (.str "/claim/cut.py" 501), (.int (105) 0), (.int (1) 0), (.int (0) 0), (.int (0) 0), (.int (3) 0), (.ref 248), (.bool true), (.int (181) 0), (.ref 249), .none, .none, .none, (.ref 250), (.int (502) 0), (.int (105) 0), (.str "/claim/cut.py" 503)]), #[]⟩
noncomputable def o252 (P : Params) : Obj := ⟨(.type "function"), none, (.func (PySem.W.fnOf "_law_shown" "_law_shown" (defArgs (top 31)) (defBody (top 31)) (defScope (top 31)) .none .none .none (.str "law_quadwords_k51_tables_written" 431) none (.ref 251) .none)), #[]⟩
noncomputable def o256 (P : Params) : Obj := ⟨(.type "code"), none, (.fields #[(.str "_law_thing" 505), (.str "_law_thing" 506), (.str "/claim/cut.py" 507), (.int (107) 0), (.int (2) 0), (.int (0) 0), (.int (0) 0), (.int (3) 0), (.ref 253), (.bool true), (.int (181) 0), (.ref 254), .none, .none, .none, (.ref 255), (.int (508) 0), (.int (107) 0), (.str "/claim/cut.py" 509)]), #[]⟩
noncomputable def o257 (P : Params) : Obj := ⟨(.type "function"), none, (.func (PySem.W.fnOf "_law_thing" "_law_thing" (defArgs (top 32)) (defBody (top 32)) (defScope (top 32)) .none .none .none (.str "law_quadwords_k51_tables_written" 431) none (.ref 256) .none)), #[]⟩
noncomputable def o263 (P : Params) : Obj := ⟨(.type "code"), none, (.fields #[(.str "_law_told" 511), (.str "_law_told" 512), (.str "/claim/cut.py" 513), (.int (117) 0), (.int (1) 0), (.int (0) 0), (.int (0) 0), (.int (3) 0), (.ref 258), (.bool true), (.int (181) 0), (.ref 259), .none, (.ref 260), (.ref 261), (.ref 262), (.int (518) 0), (.int (117) 0), (.str "/claim/cut.py" 519)]), #[]⟩
noncomputable def o264 (P : Params) : Obj := ⟨(.type "function"), none, (.func (PySem.W.fnOf "_law_told" "_law_told" (defArgs (top 33)) (defBody (top 33)) (defScope (top 33)) .none .none .none (.str "law_quadwords_k51_tables_written" 431) none (.ref 263) .none)), #[]⟩
noncomputable def o268 (P : Params) : Obj := ⟨(.type "code"), none, (.fields #[(.str "_law_right" 521), (.str "_law_right" 522), (.str "/claim/cut.py" 523), (.int (125) 0), (.int (1) 0), (.int (0) 0), (.int (0) 0), (.int (3) 0), (.ref 265), (.bool true), (.int (181) 0), (.ref 266), .none, .none, .none, (.ref 267), (.int (524) 0), (.int (125) 0), (.str "/claim/cut.py" 525)]), #[]⟩
noncomputable def o269 (P : Params) : Obj := ⟨(.type "function"), none, (.func (PySem.W.fnOf "_law_right" "_law_right" (defArgs (top 34)) (defBody (top 34)) (defScope (top 34)) .none .none .none (.str "law_quadwords_k51_tables_written" 431) none (.ref 268) .none)), #[]⟩
noncomputable def o275 (P : Params) : Obj := ⟨(.type "code"), none, (.fields #[(.str "_law_spoilt" 527), (.str "_law_spoilt" 528), (.str "/claim/cut.py" 529), (.int (133) 0), (.int (2) 0), (.int (0) 0), (.int (0) 0), (.int (3) 0), (.ref 270), (.bool true), (.int (181) 0), (.ref 271), .none, (.ref 272), (.ref 273), (.ref 274), (.int (536) 0), (.int (133) 0), (.str "/claim/cut.py" 537)]), #[]⟩
noncomputable def o276 (P : Params) : Obj := ⟨(.type "function"), none, (.func (PySem.W.fnOf "_law_spoilt" "_law_spoilt" (defArgs (top 35)) (defBody (top 35)) (defScope (top 35)) .none .none .none (.str "law_quadwords_k51_tables_written" 431) none (.ref 275) .none)), #[]⟩
noncomputable def o280 (P : Params) : Obj := ⟨(.type "code"), none, (.fields #[(.str "law" 539), (.str "law" 540), (.str "/claim/cut.py" 541), (.int (141) 0), (.int (1) 0), (.int (0) 0), (.int (0) 0), (.int (3) 0), (.ref 277), (.bool true), (.int (181) 0), (.ref 278), .none, .none, .none, (.ref 279), (.int (542) 0), (.int (141) 0), (.str "/claim/cut.py" 543)]), #[]⟩
noncomputable def o281 (P : Params) : Obj := ⟨(.type "function"), none, (.func (PySem.W.fnOf "law" "law" (defArgs (top 36)) (defBody (top 36)) (defScope (top 36)) .none .none .none (.str "law_quadwords_k51_tables_written" 431) none (.ref 280) .none)), #[]⟩
noncomputable def K (P : Params) : Frag := (nat_lit 3, o3 P) :: (nat_lit 23, o23 P) :: (nat_lit 24, o24 P) :: (nat_lit 36, o36 P) :: (nat_lit 37, o37 P) :: (nat_lit 48, o48 P) :: (nat_lit 49, o49 P) :: (nat_lit 60, o60 P) :: (nat_lit 61, o61 P) :: (nat_lit 72, o72 P) :: (nat_lit 73, o73 P) :: (nat_lit 84, o84 P) :: (nat_lit 85, o85 P) :: (nat_lit 96, o96 P) :: (nat_lit 97, o97 P) :: (nat_lit 108, o108 P) :: (nat_lit 109, o109 P) :: (nat_lit 120, o120 P) :: (nat_lit 121, o121 P) :: (nat_lit 132, o132 P) :: (nat_lit 133, o133 P) :: (nat_lit 144, o144 P) :: (nat_lit 145, o145 P) :: (nat_lit 156, o156 P) :: (nat_lit 157, o157 P) :: (nat_lit 165, o165 P) :: (nat_lit 166, o166 P) :: (nat_lit 172, o172 P) :: (nat_lit 173, o173 P) :: (nat_lit 177, o177 P) :: (nat_lit 178, o178 P) :: (nat_lit 184, o184 P) :: (nat_lit 185, o185 P) :: (nat_lit 191, o191 P) :: (nat_lit 192, o192 P) :: (nat_lit 196, o196 P) :: (nat_lit 197, o197 P) :: (nat_lit 201, o201 P) :: (nat_lit 202, o202 P) :: (nat_lit 206, o206 P) :: (nat_lit 207, o207 P) :: (nat_lit 211, o211 P) :: (nat_lit 212, o212 P) :: (nat_lit 218, o218 P) :: (nat_lit 219, o219 P) :: (nat_lit 225, o225 P) :: (nat_lit 226, o226 P) :: (nat_lit 232, o232 P) :: (nat_lit 233, o233 P) :: (nat_lit 239, o239 P) :: (nat_lit 240, o240 P) :: (nat_lit 246, o246 P) :: (nat_lit 247, o247 P) :: (nat_lit 251, o251 P) :: (nat_lit 252, o252 P) :: (nat_lit 256, o256 P) :: (nat_lit 257, o257 P) :: (nat_lit 263, o263 P) :: (nat_lit 264, o264 P) :: (nat_lit 268, o268 P) :: (nat_lit 269, o269 P) :: (nat_lit 275, o275 P) :: (nat_lit 276, o276 P) :: (nat_lit 280, o280 P) :: (nat_lit 281, o281 P) :: []
def kAs : List Addr := [3, 23, 24, 36, 37, 48, 49, 60, 61, 72, 73, 84, 85, 96, 97, 108, 109, 120, 121, 132, 133, 144, 145, 156, 157, 165, 166, 172, 173, 177, 178, 184, 185, 191, 192, 196, 197, 201, 202, 206, 207, 211, 212, 218, 219, 225, 226, 232, 233, 239, 240, 246, 247, 251, 252, 256, 257, 263, 264, 268, 269, 275, 276, 280, 281]
set_option maxRecDepth 100000 in
theorem key0 (w : World) : GoalQ pw (view pw keep) loose (xt PySem.Challenge.rw_quadwords_k51_tables_written (view pw keep)) K kAs 6426 w := by kernel_rfl
theorem key : ∀ w, Goal (denote treeTable) stepOk stepT openSeen pw (view pw keep) loose (xt PySem.Challenge.rw_quadwords_k51_tables_written (view pw keep)) K kAs 6426 w := key1 key0
end Hd
end
set_option Elab.async false
set_option linter.all false
open PySem PySem.W PyProof.Rows
set_option maxRecDepth 100000 in
set_option maxHeartbeats 0 in
theorem PySem.Challenge.cw_quadwords_k51_tables_written_holds : PySem.Challenge.rw_quadwords_k51_tables_written.Holds := by
  w_on
  refine Hd.head (q := view Hd.pw Hd.keep) (loose := Hd.loose) (K := Hd.K) (as := Hd.kAs) (by decide +kernel) (by kernel_rfl) (by decide) (fun s => rfl) Hd.key (fun P => by kernel_rfl) (by rfl) (by rfl) (by rfl) (by rfl) (by decide +kernel) ⟨rfl, rfl, rfl, rfl, rfl, by decide +kernel⟩ ?hw ?hc
  case hw => w_witness2
  k_fill
  refine K3.walk (l := PySem.Challenge.rw_quadwords_k51_tables_written) rfl rfl (fun w h Y => Y) ?F
  case F =>
    intro w mg fa h KX G hmg
    refine' K3.all_mk KX G hmg ?a_lwh ?l_lwh ?c_lwh ?k_lwh ?a_draw ?l_draw ?c_draw ?k_draw ?a_draws ?l_draws ?c_draws ?k_draws ?a_kind ?l_kind ?c_kind ?k_kind ?a_fo ?l_fo ?c_fo ?k_fo ?a_nt ?l_nt ?c_nt ?k_nt ?a_tt ?l_tt ?c_tt ?k_tt ?a_fig ?l_fig ?c_fig ?k_fig ?a_int ?l_int ?c_int ?k_int ?a_read ?l_read ?c_read ?k_read ?a_fi ?l_fi ?c_fi ?k_fi ?a_lr ?l_lr ?c_lr ?k_lr ?a_sh ?l_sh ?c_sh ?k_sh ?a_told ?l_told ?c_told ?k_told ?a_right ?l_right ?c_right ?k_right ?a_bent ?l_bent ?c_bent ?k_bent ?a_num ?l_num ?c_num ?k_num ?a_thing ?l_thing ?c_thing ?k_thing ?a_spo ?l_spo ?c_spo ?k_spo ?a_law ?l_law ?c_law ?k_law ?e_MF ?e_NoBack ?e_NoCount ?e_NoMakers ?e_NoName ?e_NoPlain ?e_NoRow ?e_NoText ?e_NoWide ?e_NoWord ?e_TooLong ?e_NoMill ?e_QuadError ?x_QuadError ?gn ?tk ?x_NoText ?sb_NoText ?ga_NoText ?gt_NoText ?ca_NoText ?mo_NoText ?mb_NoText ?ci_NoText ?o0_NoText ?o1_NoText ?o2_NoText ?o3_NoText ?o4_NoText ?o5_NoText ?o6_NoText ?o7_NoText ?o8_NoText ?o9_NoText ?o10_NoText ?o11_NoText ?e_FIG ?n_int ?n_bool ?n_str ?n_isinstance ?n_tuple ?n_len ?n_all ?n_range ?n_max ?n_min ?n_divmod ?n_ValueError
    (case a_lwh => k_is)
    (case l_lwh => k_is)
    (case c_lwh => k_is)
    (case k_lwh => k_is)
    (case a_draw => k_is)
    (case l_draw => k_is)
    (case c_draw => k_is)
    (case k_draw => k_is)
    (case a_draws => k_is)
    (case l_draws => k_is)
    (case c_draws => k_is)
    (case k_draws => k_is)
    (case a_kind => k_is)
    (case l_kind => k_is)
    (case c_kind => k_is)
    (case k_kind => k_is)
    (case a_fo => k_is)
    (case l_fo => k_is)
    (case c_fo => k_is)
    (case k_fo => k_is)
    (case a_nt => k_is)
    (case l_nt => k_is)
    (case c_nt => k_is)
    (case k_nt => k_is)
    (case a_tt => k_is)
    (case l_tt => k_is)
    (case c_tt => k_is)
    (case k_tt => k_is)
    (case a_fig => k_is)
    (case l_fig => k_is)
    (case c_fig => k_is)
    (case k_fig => k_is)
    (case a_int => k_is)
    (case l_int => k_is)
    (case c_int => k_is)
    (case k_int => k_is)
    (case a_read => k_is)
    (case l_read => k_is)
    (case c_read => k_is)
    (case k_read => k_is)
    (case a_fi => k_is)
    (case l_fi => k_is)
    (case c_fi => k_is)
    (case k_fi => k_is)
    (case a_lr => k_is)
    (case l_lr => k_is)
    (case c_lr => k_is)
    (case k_lr => k_is)
    (case a_sh => k_is)
    (case l_sh => k_is)
    (case c_sh => k_is)
    (case k_sh => k_is)
    (case a_told => k_is)
    (case l_told => k_is)
    (case c_told => k_is)
    (case k_told => k_is)
    (case a_right => k_is)
    (case l_right => k_is)
    (case c_right => k_is)
    (case k_right => k_is)
    (case a_bent => k_is)
    (case l_bent => k_is)
    (case c_bent => k_is)
    (case k_bent => k_is)
    (case a_num => k_is)
    (case l_num => k_is)
    (case c_num => k_is)
    (case k_num => k_is)
    (case a_thing => k_is)
    (case l_thing => k_is)
    (case c_thing => k_is)
    (case k_thing => k_is)
    (case a_spo => k_is)
    (case l_spo => k_is)
    (case c_spo => k_is)
    (case k_spo => k_is)
    (case a_law => k_is)
    (case l_law => k_is)
    (case c_law => k_is)
    (case k_law => k_is)
    (case e_MF => k_is)
    (case e_NoBack => k_is)
    (case e_NoCount => k_is)
    (case e_NoMakers => k_is)
    (case e_NoName => k_is)
    (case e_NoPlain => k_is)
    (case e_NoRow => k_is)
    (case e_NoText => k_is)
    (case e_NoWide => k_is)
    (case e_NoWord => k_is)
    (case e_TooLong => k_is)
    (case e_NoMill => k_is)
    (case e_QuadError => k_is)
    (case x_QuadError => k_exc)
    (case gn => k_is)
    (case tk => k_is)
    (case x_NoText => k_exc)
    (case sb_NoText => kernel_rfl)
    (case ga_NoText => k_is)
    (case gt_NoText => k_is)
    (case ca_NoText => k_is)
    (case mo_NoText => k_is)
    (case mb_NoText => k_is)
    (case ci_NoText => k_is)
    (case o0_NoText => kit_is)
    (case o1_NoText => kit_is)
    (case o2_NoText => kit_is)
    (case o3_NoText => kit_is)
    (case o4_NoText => kit_is)
    (case o5_NoText => kit_is)
    (case o6_NoText => kit_is)
    (case o7_NoText => kit_is)
    (case o8_NoText => kit_is)
    (case o9_NoText => kit_is)
    (case o10_NoText => kit_is)
    (case o11_NoText => kit_is)
    (case e_FIG => k_is)
    (case n_int => k_is)
    (case n_bool => k_is)
    (case n_str => k_is)
    (case n_isinstance => k_is)
    (case n_tuple => k_is)
    (case n_len => k_is)
    (case n_all => k_is)
    (case n_range => k_is)
    (case n_max => k_is)
    (case n_min => k_is)
    (case n_divmod => k_is)
    (case n_ValueError => k_is)
