import PyProof.Rows.All
import Wide.All
import OpenK.AllK
import Wide.FinOn
import PyProof.EqAt
import PyProof.EqKinds
import PyProof.TupleCall
import PyProof.Rows.BitMore
import KE.BitLaws
import Open.SpecLaws
import KE.OsHead
import KE.OsGo
import PySem.Challenge.RW_softport_s01_answers
set_option Elab.async false
set_option linter.all false
set_option maxRecDepth 100000
set_option maxHeartbeats 4000000
namespace L2
open PySem PySem.Spec PyProof.Rows
abbrev Key := Sum Int Str
def keyIs : Key → Value → Bool
 | .inl k, v => Value.isInt k v
 | .inr x, v => Value.isStrOf x v
def keyH (w : World) : Key → Int
 | .inl k => hashInt k
 | .inr x => hashStr w x
theorem keyIs_shape : ∀ {k : Key} {v : Value}, keyIs k v = true → (∃ i t, k = Sum.inl i ∧ v = Value.int i t) ∨ (∃ x t, k = Sum.inr x ∧ v = Value.str x t)
 | .inl i, v, h => by
   obtain ⟨t, e⟩ := Value.isInt_shape (k := i) (v := v) h
   exact .inl ⟨i, t, rfl, e⟩
 | .inr x, v, h => by
   obtain ⟨t, e⟩ := Value.isStrOf_shape (x := x) (v := v) h
   exact .inr ⟨x, t, rfl, e⟩
theorem key_ll (a b : Int) : decide ((Sum.inl a : Key) = Sum.inl b) = (a == b) := by
 by_cases e : a = b
 · subst e; simp
 · have h : ¬ (Sum.inl a : Key) = Sum.inl b := fun q => e (Sum.inl.inj q)
   rw [decide_eq_false h]
   exact (beq_eq_false_iff_ne.mpr e).symm
theorem key_rr (a b : Str) : decide ((Sum.inr a : Key) = Sum.inr b) = decide (a = b) := by
 by_cases e : a = b
 · subst e; simp
 · have h : ¬ (Sum.inr a : Key) = Sum.inr b := fun q => e (Sum.inr.inj q)
   rw [decide_eq_false h, decide_eq_false e]
theorem key_lr (a : Int) (b : Str) : decide ((Sum.inl a : Key) = Sum.inr b) = false := decide_eq_false (fun q => nomatch q)
theorem key_rl (a : Str) (b : Int) : decide ((Sum.inr a : Key) = Sum.inl b) = false := decide_eq_false (fun q => nomatch q)
def mixKind (prog : Program) (w : World) : PySem.KeyKind prog w Key where
 is := keyIs
 hash := keyH w
 inj := fun v a b ha hb => by
   rcases keyIs_shape ha with ⟨i, t, rfl, rfl⟩ | ⟨x, t, rfl, rfl⟩
   · rcases keyIs_shape hb with ⟨j, u, rfl, e⟩ | ⟨y, u, rfl, e⟩
     · injection e with e1 _; rw [e1]
     · exact nomatch e
   · rcases keyIs_shape hb with ⟨j, u, rfl, e⟩ | ⟨y, u, rfl, e⟩
     · exact nomatch e
     · injection e with e1 _; rw [e1]
 byValue := fun k v h => by
   rcases keyIs_shape h with ⟨i, t, rfl, rfl⟩ | ⟨x, t, rfl, rfl⟩ <;> rfl
 pyHash := fun hv h => by
   rcases keyIs_shape hv with ⟨i, t, rfl, rfl⟩ | ⟨x, t, rfl, rfl⟩
   · exact wpAny_pyHash_int h
   · exact wpAny_pyHash_str h
 eqBool := fun hu hv h => by
   rcases keyIs_shape hu with ⟨i, t, rfl, rfl⟩ | ⟨x, t, rfl, rfl⟩
   · rcases keyIs_shape hv with ⟨j, u, rfl, rfl⟩ | ⟨y, u, rfl, rfl⟩
     · rw [key_ll] at h; exact wpAny_eqBool_int h
     · rw [key_lr] at h; exact SeqAt.EqAt.int_str i t y u _ _ _ _ h
   · rcases keyIs_shape hv with ⟨j, u, rfl, rfl⟩ | ⟨y, u, rfl, rfl⟩
     · rw [key_rl] at h; exact SeqAt.EqAt.str_int x t j u _ _ _ _ h
     · rw [key_rr] at h; exact wpAny_eqBool_str h
 «strs» := fun k x t v h => by
   rcases keyIs_shape h with ⟨i, u, rfl, e⟩ | ⟨y, u, rfl, e⟩
   · exact nomatch e
   · injection e with e1 _
     subst e1
     cases v <;> rfl
end L2
namespace L2
open PySem PySem.Spec PyProof.Rows
inductive V where
 | non | bl (b : Bool) | int (i : Int) | str (x : Str) | byt (b : Array UInt8) | flt (b : UInt64) | ref (a : Addr) | ty (n : String)
 deriving DecidableEq
def RelV : V → Value → Prop
 | .non, u => u = Value.none
 | .bl b, u => u = Value.bool b
 | .int i, u => ∃ t, u = Value.int i t
 | .str x, u => ∃ t, u = Value.str x t
 | .byt b, u => ∃ t, u = Value.bytes b t
 | .flt b, u => ∃ t, u = Value.float b t
 | .ref a, u => u = Value.ref a
 | .ty n, u => u = Value.type n
abbrev Vals : List V → List Value → Prop := Paired RelV
theorem Vals.length {xs : List V} {us : List Value} (r : Vals xs us) : xs.length = us.length := Paired.length r
theorem Vals.get : ∀ {xs : List V} {us : List Value} {i : Nat} {x : V}, Vals xs us → xs[i]? = some x → ∃ u, us[i]? = some u ∧ RelV x u
 | _, _, _, _, .nil, e => by simp at e
 | _, _, 0, _, .cons r _, e => by simp at e; subst e; exact ⟨_, rfl, r⟩
 | _, _, i + 1, x, .cons _ t, e => by
   obtain ⟨u, h1, h2⟩ := Vals.get (i := i) (x := x) t (by simpa using e)
   exact ⟨u, by simpa using h1, h2⟩
theorem Vals.set {x : V} {u : Value} (r : RelV x u) : ∀ {xs : List V} {us : List Value} (i : Nat), Vals xs us → Vals (xs.set i x) (us.set i u)
 | _, _, _, .nil => .nil
 | _, _, 0, .cons _ t => .cons r t
 | _, _, i + 1, .cons q t => .cons q (Vals.set r i t)
theorem Vals.append : ∀ {xs ys : List V} {us ws : List Value}, Vals xs us → Vals ys ws → Vals (xs ++ ys) (us ++ ws)
 | _, _, _, _, .nil, s => s
 | _, _, _, _, .cons r t, s => .cons r (Vals.append t s)
theorem Vals.take : ∀ {xs : List V} {us : List Value} (n : Nat), Vals xs us → Vals (xs.take n) (us.take n)
 | _, _, 0, _ => .nil
 | _, _, _ + 1, .nil => .nil
 | _, _, n + 1, .cons r t => .cons r (Vals.take n t)
theorem Vals.drop : ∀ {xs : List V} {us : List Value} (n : Nat), Vals xs us → Vals (xs.drop n) (us.drop n)
 | _, _, 0, r => r
 | _, _, _ + 1, .nil => .nil
 | _, _, n + 1, .cons _ t => Vals.drop n t
def RelO : Option V → Option Value → Prop
 | some v, some u => RelV v u
 | none, none => True
 | _, _ => False
def KV {κ : Type} : List (κ × V) → List (κ × Value) → Prop := Paired fun (p : κ × V) (q : κ × Value) => p.1 = q.1 ∧ RelV p.2 q.2
def kV : Key → V
 | .inl i => .int i
 | .inr x => .str x
inductive HO where
 | lst (xs : List V)
 | tup (xs : List V)
 | dK (kvs : List (Key × V)) | dT (kvs : List (List Key × V))
 | set (S : Int → Bool) (n : Nat)
 | ins (C dx : Addr) (fs : List (Str × V))
 | own (x : Addr)
 | xd (fs : List (Str × V))
 | met (f x : Addr)
 | rng (lo hi : Int)
 | frz (o : Obj) (u : HO)
 | tbl (ps : Array Value)
 | ext (φ : Heap → Prop)
abbrev Hp := Addr → Option HO
def upd (H : Hp) (a : Addr) (o : HO) : Hp := fun b => if b = a then some o else H b
theorem upd_same {H : Hp} {a : Addr} {o : HO} : upd H a o a = some o := by unfold upd; rw [if_pos rfl]
theorem upd_ne {H : Hp} {a b : Addr} {o : HO} (h : b ≠ a) : upd H a o b = H b := by unfold upd; rw [if_neg h]
theorem upd_upd {H : Hp} {a : Addr} {o u : HO} : upd (upd H a o) a u = upd H a u := by
 funext b; unfold upd; split <;> rfl
theorem ne_of {H : Hp} {a b : Addr} {o u : HO} (h : H a = some o) (h' : H b = some u) (d : o ≠ u) : a ≠ b := by
 intro e; subst e; rw [h] at h'; exact d (Option.some.inj h')
theorem ne_of_none {H : Hp} {a b : Addr} {o : HO} (h : H a = some o) (h' : H b = none) : a ≠ b := by
 intro e; subst e; rw [h] at h'; cases h'
section
variable (P : Program) (w : World)
def ObjOk (H : Hp) (h : Heap) (a : Addr) : HO → Prop
 | .lst xs => xs.length ≤ sizeLine ∧ ∃ (its : List Value) (n : Nat), Vals xs its ∧ h.get? a = some { cls := .type "list", data := .seq its.toArray n }
 | .tup xs => xs.length ≤ sizeLine ∧ ∃ its : List Value, Vals xs its ∧ IsTup h a its.toArray
 | .dK kvs => kvs.length ≤ sizeLine ∧ (a == sysModules) = false ∧ ∃ vs, KV kvs vs ∧ h.DictOf (mixKind P w) a vs
 | .dT kvs => kvs.length ≤ sizeLine ∧ (a == sysModules) = false ∧ ∃ xs : List (List Key × Addr × Value),
     Paired (fun (p : List Key × V) (q : List Key × Addr × Value) => p.1 = q.1 ∧ H q.2.1 = some (.tup (p.1.map kV)) ∧ RelV p.2 q.2.2) kvs xs ∧
     ∃ o es ep, h.get? a = some o ∧ o.ExactDict ∧ o.data = .dict es ep ∧ es.toList = xs.map (entryOfKey (tupleKind (mixKind P w))) ∧ (xs.map (·.1)).Nodup
 | .set S n => h.SetOf (intKind P w) a S n
 | .ins C dx fs => H dx = some (.own a) ∧ fs.length ≤ 1000 ∧ dx ≠ a ∧ h.get? a = some (PySem.W.instObj C dx) ∧
     ∃ mA, h.Ns1 dx mA ∧ (∀ f, RelO (fs.lookup f) (mA f)) ∧ PySem.Within mA (fs.map (·.1))
 | .own _ => ∃ o, h.get? a = some o
 | .xd fs => ∃ mA, h.Ns1 a mA ∧ ∀ f, RelO (fs.lookup f) (mA f)
 | .rng lo hi => ∃ t u v, h.get? a = some { cls := .type "range", data := .fields #[.int lo t, .int hi u, .int 1 v] }
 | .frz o u => h.get? a = some o ∧ ObjOk H h a u
 | .tbl ps => h.get? a = some { cls := .none, data := .fields ps }
 | .met f x => h.get? a = some (PySem.W.methodObj (.ref f) (.ref x))
 | .ext φ => φ h ∧ (∃ o, h.get? a = some o) ∧ ∀ h1 h2 : Heap, φ h1 → (∀ o, h1.get? a = some o → h2.get? a = some o) → φ h2
def HOk (H : Hp) (h : Heap) : Prop := ∀ a o, H a = some o → ObjOk P w H h a o
end
section
variable {P : Program} {w : World} {H H' : Hp} {h h' : Heap} {a : Addr} {o : HO}
theorem ObjOk.lt (x : ObjOk P w H h a o) : a < h.objs.size := by
 cases o with
 | lst xs => obtain ⟨_, _, _, _, e⟩ := x; exact Heap.lt_size e
 | tup xs => obtain ⟨_, _, _, p⟩ := x; exact p.lt
 | dK kvs => obtain ⟨_, _, _, _, o, _, _, e, _⟩ := x; exact Heap.lt_size e
 | dT kvs => obtain ⟨_, _, _, _, o, _, _, e, _⟩ := x; exact Heap.lt_size e
 | set S n => obtain ⟨o, _, _, _, e, _⟩ := x; exact Heap.lt_size e
 | ins C dx fs => obtain ⟨_, _, _, e, _⟩ := x; exact Heap.lt_size e
 | own y => obtain ⟨_, e⟩ := x; exact Heap.lt_size e
 | xd fs => obtain ⟨_, ⟨_, _, _, e, _⟩, _⟩ := x; exact Heap.lt_size e
 | rng lo hi => obtain ⟨_, _, _, e⟩ := x; exact Heap.lt_size e
 | frz ob u => obtain ⟨e, _⟩ := x; exact Heap.lt_size e
 | tbl ps => exact Heap.lt_size (show h.get? a = some _ from x)
 | met f y => exact Heap.lt_size (show h.get? a = some _ from x)
 | ext φ => obtain ⟨_, ⟨_, e⟩, _⟩ := x; exact Heap.lt_size e
theorem Paired.mapP {α β : Type} {F G : α → β → Prop} : ∀ {l₁ : List α} {l₂ : List β}, Paired F l₁ l₂ → (∀ a b, F a b → G a b) → Paired G l₁ l₂
 | _, _, .nil, _ => .nil
 | _, _, .cons r t, f => .cons (f _ _ r) (Paired.mapP t f)
theorem Paired.imp' {α β : Type} {F G : α → β → Prop} (f : ∀ a b, F a b → G a b) {l₁ : List α} {l₂ : List β} (r : Paired F l₁ l₂) : Paired G l₁ l₂ := Paired.mapP r f
theorem ObjOk.stay (x : ObjOk P w H h a o) (k : ∀ b u, (b = a ∨ H b = some (.own a)) → h.get? b = some u → h'.get? b = some u)
   (ho : ∀ b, H b = some (.own a) → H' b = some (.own a)) (ht : ∀ b xs, H b = some (.tup xs) → H' b = some (.tup xs)) : ObjOk P w H' h' a o := by
 induction o with
 | lst xs => obtain ⟨z, its, n, r, e⟩ := x; exact ⟨z, its, n, r, k _ _ (.inl rfl) e⟩
 | tup xs => obtain ⟨z, its, r, ob, e, c⟩ := x; exact ⟨z, its, r, ob, k _ _ (.inl rfl) e, c⟩
 | dK kvs => obtain ⟨z, y, vs, r, ob, es, ep, e, c⟩ := x; exact ⟨z, y, vs, r, ob, es, ep, k _ _ (.inl rfl) e, c⟩
 | dT kvs =>
   obtain ⟨z, y, xs, r, ob, es, ep, e, c⟩ := x
   exact ⟨z, y, xs, Paired.mapP r fun p q z => ⟨z.1, ht _ _ z.2.1, z.2.2⟩, ob, es, ep, k _ _ (.inl rfl) e, c⟩
 | set S n => obtain ⟨ob, es, ep, t, e, c⟩ := x; exact ⟨ob, es, ep, t, k _ _ (.inl rfl) e, c⟩
 | ins C dx fs =>
   obtain ⟨d, z, ne, e, mA, ⟨od, es, ep, e2, c⟩, r⟩ := x
   exact ⟨ho _ d, z, ne, k _ _ (.inl rfl) e, mA, ⟨od, es, ep, k _ _ (.inr d) e2, c⟩, r⟩
 | own y => obtain ⟨ob, e⟩ := x; exact ⟨ob, k _ _ (.inl rfl) e⟩
 | xd fs => obtain ⟨mA, ⟨od, es, ep, e, c⟩, r⟩ := x; exact ⟨mA, ⟨od, es, ep, k _ _ (.inl rfl) e, c⟩, r⟩
 | rng lo hi => obtain ⟨t, u, v, e⟩ := x; exact ⟨t, u, v, k _ _ (.inl rfl) e⟩
 | frz ob u ih => obtain ⟨e, q⟩ := x; exact ⟨k _ _ (.inl rfl) e, ih q⟩
 | tbl ps =>
   have e : h.get? a = some { cls := .none, data := .fields ps } := x
   show h'.get? a = some { cls := .none, data := .fields ps }
   exact k a _ (.inl rfl) e
 | met f y =>
   have e : h.get? a = some (PySem.W.methodObj (.ref f) (.ref y)) := x
   show h'.get? a = some (PySem.W.methodObj (.ref f) (.ref y))
   exact k a _ (.inl rfl) e
 | ext φ => obtain ⟨p, ⟨o, e⟩, st⟩ := x; exact ⟨st _ _ p fun o q => k _ _ (.inl rfl) q, ⟨o, k _ _ (.inl rfl) e⟩, st⟩
theorem HOk.lt (x : HOk P w H h) (e : H a = some o) : a < h.objs.size := (x a o e).lt
theorem HOk.fresh (x : HOk P w H h) (e : h.objs.size ≤ a) : H a = none := by
 cases q : H a with
 | none => rfl
 | some u => exact absurd (Nat.lt_of_lt_of_le (x.lt q) e) (Nat.lt_irrefl _)
theorem HOk.kept (x : HOk P w H h) (k : ∀ b u, h.get? b = some u → h'.get? b = some u) : HOk P w H h' := fun a o e =>
 (x a o e).stay (fun b u _ q => k b u q) (fun _ q => q) fun _ _ q => q
theorem HOk.laid (x : HOk P w H h) (k : ∀ b u, h.get? b = some u → h'.get? b = some u) (hp : h.objs.size ≤ a) (new : ObjOk P w (upd H a o) h' a o) : HOk P w (upd H a o) h' := fun b u e => by
 have hn := x.fresh hp
 by_cases hb : b = a
 · subst hb; rw [upd_same] at e; cases e; exact new
 · rw [upd_ne hb] at e
   exact (x b u e).stay (fun c v _ q => k c v q) (fun c q => by rw [upd_ne (ne_of_none q hn)]; exact q) fun c xs q => by rw [upd_ne (ne_of_none q hn)]; exact q
end
def Rd (H : Hp) (a : Addr) (u : HO) : Prop := H a = some u ∨ ∃ o, H a = some (.frz o u)
theorem Rd.ok {P : Program} {w : World} {H : Hp} {h : Heap} {a : Addr} {u : HO} (r : Rd H a u) (x : HOk P w H h) : ObjOk P w H h a u := by
 rcases r with r | ⟨o, r⟩
 · exact x a u r
 · obtain ⟨_, q⟩ := x a _ r
   exact q
def Mut : Option HO → Prop
 | some (.lst _) => True
 | some (.dK _) => True
 | some (.dT _) => True
 | some (.set _ _) => True
 | some (.ins _ _ _) => True
 | some (.ext _) => True
 | _ => False
section
variable {P : Program} {w : World} {H : Hp} {h h' : Heap} {x e : Addr} {o' : HO}
theorem HOk.write (ok : HOk P w H h) (mu : Mut (H x)) (he : e = x ∨ H e = some (.own x)) (k : ∀ b u, b ≠ e → h.get? b = some u → h'.get? b = some u) (heo : ∃ u, h'.get? e = some u)
   (new : ObjOk P w (upd H x o') h' x o') : HOk P w (upd H x o') h' := fun b u q => by
 have nown : ∀ c y, H c = some (.own y) → c ≠ x := fun c y r z => by subst z; rw [r] at mu; exact mu
 have ntup : ∀ c xs, H c = some (.tup xs) → c ≠ x := fun c xs r z => by subst z; rw [r] at mu; exact mu
 by_cases hb : b = x
 · subst hb; rw [upd_same] at q; cases q; exact new
 · rw [upd_ne hb] at q
   by_cases hbe : b = e
   · have q' : H b = some (.own x) := by
       rcases he with z | z
       · exact absurd (hbe.trans z) hb
       · rw [hbe]; exact z
     rw [q] at q'; cases q'
     obtain ⟨v, hv⟩ := heo
     exact ⟨v, by rw [hbe]; exact hv⟩
   · refine (ok b u q).stay (fun c v hc r => k c v ?_ r) (fun c r => by rw [upd_ne (nown c b r)]; exact r) fun c xs r => by rw [upd_ne (ntup c xs r)]; exact r
     rcases hc with rfl | hc
     · exact hbe
     · rintro rfl
       rcases he with z | z
       · exact nown c b hc z
       · rw [hc] at z; cases z; exact hb rfl
end
structure Un (fs ex : List Addr) (H H' : Hp) (h h' : Heap) : Prop where
 keep : ∀ b o, h.get? b = some o → H b = none → b ∉ fs → b ∉ ex → h'.get? b = some o
 slot : ∀ b o, h.get? b = some o → H b = none → b ∈ fs → b ∉ ex → ∃ sl, h'.get? b = some { o with slots := sl }
 free : ∀ b o, h.get? b = some o → H b = none → b ∉ ex → H' b = none
 there : ∀ b o, h.get? b = some o → b ∉ ex → ∃ o', h'.get? b = some o'
 tups : ∀ b xs, H b = some (.tup xs) → H' b = some (.tup xs)
 frzs : ∀ b o u, H b = some (.frz o u) → H' b = some (.frz o u)
 tbls : ∀ b ps, H b = some (.tbl ps) → ∃ more, H' b = some (.tbl (ps ++ more))
section
variable {fs fs' ex ex' : List Addr} {H H1 H2 : Hp} {h h1 h2 h' : Heap} {a x e : Addr} {o : HO}
theorem Un.any (u : Un fs ex H H1 h h1) {b : Addr} {ob : Obj} (q : h.get? b = some ob) (n : H b = none) (hx : b ∉ ex) : ∃ sl, h1.get? b = some { ob with slots := sl } := by
 by_cases hb : b ∈ fs
 · exact u.slot b ob q n hb hx
 · exact ⟨ob.slots, u.keep b ob q n hb hx⟩
theorem Un.kept (k : ∀ b u, h.get? b = some u → h'.get? b = some u) : Un fs ex H H h h' :=
 ⟨fun b ob q _ _ _ => k b ob q, fun b ob q _ _ _ => ⟨ob.slots, k b ob q⟩, fun _ _ _ n _ => n, fun b ob q _ => ⟨ob, k b ob q⟩, fun _ _ q => q, fun _ _ _ q => q, fun _ ps q => ⟨#[], by rw [q]; simp⟩⟩
theorem Un.refl : Un fs ex H H h h := Un.kept fun _ _ q => q
theorem Un.laid (k : ∀ b u, h.get? b = some u → h'.get? b = some u) (hp : h.objs.size ≤ a) (hn : H a = none) : Un fs ex H (upd H a o) h h' where
 keep := fun b u q _ _ _ => k b u q
 slot := fun b u q _ _ _ => ⟨u.slots, k b u q⟩
 free := fun b u q n _ => by rw [upd_ne (Nat.ne_of_lt (Nat.lt_of_lt_of_le (Heap.lt_size q) hp))]; exact n
 there := fun b u q _ => ⟨u, k b u q⟩
 tups := fun b xs q => by rw [upd_ne (ne_of_none q hn)]; exact q
 frzs := fun b u xs q => by rw [upd_ne (ne_of_none q hn)]; exact q
 tbls := fun b ps q => ⟨#[], by rw [upd_ne (ne_of_none q hn), q]; simp⟩
theorem Un.write (mu : Mut (H x)) (he : e = x ∨ H e = some (.own x)) (k : ∀ b u, b ≠ e → h.get? b = some u → h'.get? b = some u) (heo : ∃ u, h'.get? e = some u) : Un fs ex H (upd H x o) h h' := by
 have hx : ∀ b, H b = none → b ≠ x := fun b n z => by subst z; rw [n] at mu; exact mu
 have hb : ∀ b, H b = none → b ≠ e := fun b n z => by
   subst z
   rcases he with r | r
   · exact hx b n r
   · rw [n] at r; cases r
 have hm : ∀ b u, H b = some u → ¬ Mut (some u) → b ≠ x := fun b u q nm z => by subst z; rw [q] at mu; exact nm mu
 refine ⟨fun b u q n _ _ => k b u (hb b n) q, fun b u q n _ _ => ⟨u.slots, k b u (hb b n) q⟩, fun b u q n _ => by rw [upd_ne (hx b n)]; exact n, fun b u q _ => ?_,
   fun b xs q => by rw [upd_ne (hm b _ q fun z => z)]; exact q, fun b u xs q => by rw [upd_ne (hm b _ q fun z => z)]; exact q, fun b ps q => ⟨#[], by rw [upd_ne (hm b _ q fun z => z), q]; simp⟩⟩
 by_cases hbe : b = e
 · subst hbe; exact heo
 · exact ⟨u, k b u hbe q⟩
end
def trk (h : Heap) (H : Hp) : List Addr := (List.range h.objs.size).filter fun a => (H a).isSome
def hidT (h : Heap) (H : Hp) : Heap := PySem.W.hideAll h (trk h H)
theorem hidT_size (h : Heap) (H : Hp) : (hidT h H).objs.size = h.objs.size := PySem.W.hideAll_size _ _
theorem hidT_get {h : Heap} {H : Hp} {b : Addr} {o : Obj} (e : h.get? b = some o) (n : H b = none) : (hidT h H).get? b = some o :=
 PySem.W.hideAll_get _ e fun hm => by
   have q : (H b).isSome = true := (List.mem_filter.mp hm).2
   rw [n] at q; simp at q
theorem of_hidT {h : Heap} {H : Hp} {b : Addr} {o : Obj} (e : (hidT h H).get? b = some o) : h.get? b = some o ∧ H b = none := by
 have e' : h.get? b = some o := PySem.W.of_hideAll (trk h H) e
 refine ⟨e', ?_⟩
 cases q : H b with
 | none => rfl
 | some x =>
   have hm : b ∈ trk h H := List.mem_filter.mpr ⟨List.mem_range.mpr (Heap.lt_size e'), by simp [q]⟩
   have z : (hidT h H).get? b = none := PySem.W.hideAll_none (trk h H) hm
   rw [z] at e; cases e
end L2
namespace L2
open PySem PySem.Spec PyProof.Rows
structure Mod (K : PySem.W.Frag) (mg : Str → Option Value) (base : Heap) : Prop where
 kin : K.In base
 glob : base.Ns mainGlobals mg
 blt : ∃ mb, base.Ns builtinsNs mb ∧ ∀ x : Str, x ≠ "__name__" → mb x = bootBuiltins x
 nolimit : base.NoLimit
/-- the context: a def's body (or a comprehension's block) running. base: fixed through the whole law; s₀, H₀: the entry; outer: the frames whose slots others may change (a def's callers); stack: all frames that run;
  ex: iterators that were made ahead of the entry and are walked here (a comprehension's); fn: the names whose cells were made at the entry (a def: all; a comprehension's block: its own); calm: not within an except suite; pn: pins that every state bears; xe: what is wanted of an exception that leaves the code -/
structure Cx where
 prog : Program
 w : World
 K : PySem.W.Frag
 mg : Str → Option Value
 base : Heap
 A : Around
 N : List Str
 s_0 : Shared
 H_0 : Hp
 env : Env
 outer : List Env
 stack : List Env
 ex : List Addr
 fn : Str → Bool
 calm : Bool
 pn : List (Addr × Obj)
 xe : Value → Shared → Prop
def frs (l : List Env) : List Addr := l.filterMap (·.frame)
abbrev Cx.fs (X : Cx) : List Addr := frs X.outer
def Vis (sc : Scope) (x : Str) : Prop := sc.names.lookup x = some .local ∨ sc.names.lookup x = some .cell ∨ sc.names.lookup x = some .free
def Loc (sc : Scope) (x : Str) : Prop := sc.names.lookup x = some .local ∨ sc.names.lookup x = some .cell
def Look (env : Env) (h : Heap) (m : Str → Option Value) (x : Str) (u : Value) : Prop :=
 (env.kindOf x = some .local ∧ m x = some u) ∨ ((env.kindOf x = some .cell ∨ env.kindOf x = some .free) ∧ ∃ c, env.cells.lookup x = some c ∧ h.IsCell c (some u))
structure Cx.Ok (X : Cx) : Prop where
 mod : Mod X.K X.mg X.base
 kind : X.env.scope.kind = .function
 glob : X.env.globals = mainGlobals
 blt : X.env.builtins = builtinsNs
 above : X.s_0.heap.objs.size ≤ X.env.locals
 inj : ∀ x y c, X.env.cells.lookup x = some c → X.env.cells.lookup y = some c → x = y
 has : ∀ x, (X.env.kindOf x = some .cell ∨ X.env.kindOf x = some .free) → ∃ c, X.env.cells.lookup x = some c
 cab : ∀ x c, X.fn x = true → X.env.cells.lookup x = some c → X.s_0.heap.objs.size ≤ c
 hd : X.calm = true → X.A.handled = none
 frames : X.A.frames = some X.stack
 stk : X.stack = X.outer ∨ (X.stack = X.env :: X.outer ∧ X.env.frame = some X.env.locals)
 exf : ∀ b ∈ X.ex, b ≠ X.env.locals ∧ ∀ x c, X.env.cells.lookup x = some c → c ≠ b
 bs : ∀ b o, X.base.get? b = some o → X.s_0.heap.get? b = some o ∧ X.H_0 b = none
 bsz : X.base.objs.size ≤ X.s_0.heap.objs.size
 noex : ∀ b o, X.base.get? b = some o → b ∉ X.ex
 exfs : ∀ b ∈ X.ex, b ∉ X.fs
 funs : X.s_0.heap.FunFrames X.base X.outer
 frf : ∀ b ∈ X.fs, X.H_0 b = none
structure Inv (X : Cx) (pins : List (Addr × Obj)) (σ : List (Option V)) (H : Hp) (s : Shared) : Prop where
 ok : X.Ok
 os : s.os = X.s_0.os
 bare : AllBare s.gens
 base : Un X.fs X.ex X.H_0 H X.s_0.heap s.heap
 loc : ∃ m, s.heap.Ns X.env.locals m ∧ ∀ (i : Nat) (x : Str) (v : V), X.N[i]? = some x → σ[i]? = some (some v) → Vis X.env.scope x → ∃ u, RelV v u ∧ Look X.env s.heap m x u
 cell : ∀ x c, X.env.cells.lookup x = some c → ∃ v, s.heap.IsCell c v
 free : H X.env.locals = none
 freeC : ∀ x c, X.env.cells.lookup x = some c → H c = none
 pin : ∀ p ∈ X.pn ++ pins, s.heap.get? p.1 = some p.2 ∧ H p.1 = none ∧ p.1 ≠ X.env.locals ∧ p.1 ∉ X.fs ∧ ∀ v, p.2.data ≠ .cell v
 hok : HOk X.prog X.w H s.heap
 len : σ.length = X.N.length
section
variable {X : Cx} {pins : List (Addr × Obj)} {σ : List (Option V)} {H H' : Hp} {s : Shared} {h' : Heap}
theorem Cx.Ok.nofr (ok : X.Ok) {b : Addr} {o : Obj} (e : X.base.get? b = some o) : b ∉ X.fs := fun hb => by
 have := (ok.funs.mem hb).1
 rw [e] at this; cases this
theorem Inv.bs (I : Inv X pins σ H s) : ∀ b o, X.base.get? b = some o → s.heap.get? b = some o ∧ H b = none := fun b o e =>
 ⟨I.base.keep b o (I.ok.bs b o e).1 (I.ok.bs b o e).2 (I.ok.nofr e) (I.ok.noex b o e), I.base.free b o (I.ok.bs b o e).1 (I.ok.bs b o e).2 (I.ok.noex b o e)⟩
theorem Inv.bk (I : Inv X pins σ H s) : ∀ b o, X.base.get? b = some o → s.heap.get? b = some o := fun b o e => (I.bs b o e).1
theorem Inv.mod (I : Inv X pins σ H s) : Mod X.K X.mg X.base := I.ok.mod
theorem Inv.kIn (I : Inv X pins σ H s) : X.K.In s.heap := I.ok.mod.kin.keeps I.bk
theorem Inv.fr (I : Inv X pins σ H s) : ∃ m, Fr X.base X.env.locals s.heap m :=
 let ⟨m, hn, _⟩ := I.loc
 ⟨m, hn, I.bk, Nat.le_trans I.ok.bsz I.ok.above⟩
theorem Inv.lt (I : Inv X pins σ H s) : X.env.locals < s.heap.objs.size := let ⟨_, hn, _⟩ := I.loc; hn.lt
theorem Inv.sz (I : Inv X pins σ H s) : X.s_0.heap.objs.size ≤ s.heap.objs.size := Nat.le_trans I.ok.above (Nat.le_of_lt I.lt)
theorem Inv.nofs (I : Inv X pins σ H s) {a : Addr} (h : s.heap.objs.size ≤ a) : a ∉ X.fs := fun hb => by
 obtain ⟨_, o, ho, _⟩ := I.ok.funs.mem hb
 exact absurd (Nat.lt_of_lt_of_le (Heap.lt_size ho) (Nat.le_trans I.sz h)) (Nat.lt_irrefl _)
theorem Inv.cne (I : Inv X pins σ H s) : ∀ x c, X.env.cells.lookup x = some c → c ≠ X.env.locals := fun x c e z => by
 obtain ⟨v, o, ho, hd⟩ := I.cell x c e
 obtain ⟨m, ⟨o', es, ep, ho', hd', _⟩, _⟩ := I.loc
 rw [z, ho'] at ho; cases ho; rw [hd'] at hd; cases hd
theorem Inv.funs (I : Inv X pins σ H s) : s.heap.FunFrames X.base X.outer := by
 have all : ∀ (l : List Env), (∀ b ∈ frs l, b ∈ X.fs) → X.s_0.heap.FunFrames X.base l → s.heap.FunFrames X.base l := by
   intro l
   induction l with
   | nil => intro _ _; trivial
   | cons env r ih =>
     intro hs hl
     obtain ⟨hk, ⟨L, o, hf, hn, ho, hd⟩, hr⟩ := hl
     have hL : L ∈ X.fs := hs L (by unfold frs; rw [List.filterMap_cons, hf]; exact List.mem_cons_self)
     obtain ⟨sl, e⟩ := I.base.slot L o ho (I.ok.frf L hL) hL fun z => I.ok.exfs L z hL
     exact ⟨hk, ⟨L, _, hf, hn, e, hd⟩, ih (fun b hb => hs b (by unfold frs; rw [List.filterMap_cons, hf]; exact List.mem_cons_of_mem _ hb)) hr⟩
 exact all X.outer (fun _ hb => hb) I.ok.funs
theorem Inv.stack (I : Inv X pins σ H s) : s.heap.FunFrames X.base X.stack := by
 rcases I.ok.stk with e | ⟨e, hf⟩
 · rw [e]; exact I.funs
 · rw [e]
   obtain ⟨m, hn, _⟩ := I.loc
   refine .cons (by rw [I.ok.kind]; decide) hf hn ?_ I.funs
   exact Heap.get?_none_of_le (Nat.le_trans I.ok.bsz I.ok.above)
theorem Inv.stkSub (I : Inv X pins σ H s) : ∀ b ∈ frs X.stack, b ∈ X.env.locals :: X.fs := fun b hb => by
 rcases I.ok.stk with e | ⟨e, hf⟩
 · rw [e] at hb; exact List.mem_cons_of_mem _ hb
 · rw [e] at hb
   unfold frs at hb
   rw [List.filterMap_cons, hf] at hb
   exact hb
theorem Inv.stkFree (I : Inv X pins σ H s) : ∀ b ∈ frs X.stack, H b = none := fun b hb => by
 rcases List.mem_cons.mp (I.stkSub b hb) with e | hb
 · rw [e]; exact I.free
 · obtain ⟨_, o, ho, _⟩ := I.ok.funs.mem hb
   exact I.base.free b o ho (I.ok.frf b hb) fun z => I.ok.exfs b z hb
theorem Inv.step {g' : Array GenState} {t' : Nat} {d' : Drawn} {ch : List Addr} (I : Inv X pins σ H s)
   (hch : ∀ b ∈ ch, (b ∈ X.ex ∨ X.s_0.heap.objs.size ≤ b) ∧ b ≠ X.env.locals ∧ (∀ x c, X.env.cells.lookup x = some c → c ≠ b) ∧ ∀ p ∈ X.pn ++ pins, p.1 ≠ b)
   (keep : ∀ b o, b ≠ X.env.locals → b ∉ X.fs → b ∉ ch → s.heap.get? b = some o → H b = none → h'.get? b = some o)
   (slot : ∀ b o, b ≠ X.env.locals → b ∈ X.fs → b ∉ ch → s.heap.get? b = some o → H b = none → ∃ sl, h'.get? b = some { o with slots := sl }) (free : ∀ b o, b ∉ ch → s.heap.get? b = some o → H b = none → H' b = none)
   (there : ∀ b o, b ∉ ch → s.heap.get? b = some o → ∃ o', h'.get? b = some o')
   (tups : ∀ b xs, H b = some (.tup xs) → H' b = some (.tup xs)) (frzs : ∀ b o u, H b = some (.frz o u) → H' b = some (.frz o u)) (tbls : ∀ b ps, H b = some (.tbl ps) → ∃ more, H' b = some (.tbl (ps ++ more)))
   (ns : ∀ m, s.heap.Ns X.env.locals m → h'.Ns X.env.locals m) (hok : HOk X.prog X.w H' h') (hg : AllBare g') :
   Inv X pins σ H' { s with heap := h', gens := g', drawn := d', toks := t' } := by
 have neL : ∀ b o, X.s_0.heap.get? b = some o → b ≠ X.env.locals := fun b o e => Nat.ne_of_lt (Nat.lt_of_lt_of_le (Heap.lt_size e) I.ok.above)
 have neC : ∀ b o, X.s_0.heap.get? b = some o → b ∉ X.ex → b ∉ ch := fun b o e hx hb => by
   rcases (hch b hb).1 with z | z
   · exact hx z
   · exact absurd (Nat.lt_of_lt_of_le (Heap.lt_size e) z) (Nat.lt_irrefl _)
 have cellK : ∀ x c, X.env.cells.lookup x = some c → ∀ v, s.heap.IsCell c v → h'.IsCell c v := fun x c e v ⟨o, ho, hd⟩ => by
   have nch : c ∉ ch := fun z => (hch c z).2.2.1 x c e rfl
   by_cases hc : c ∈ X.fs
   · obtain ⟨sl, q⟩ := slot c o (I.cne x c e) hc nch ho (I.freeC x c e)
     exact ⟨_, q, hd⟩
   · exact ⟨o, keep c o (I.cne x c e) hc nch ho (I.freeC x c e), hd⟩
 refine ⟨I.ok, I.os, hg, ⟨fun b o e n hb hx => ?_, fun b o e n hb hx => ?_, fun b o e n hx => ?_, fun b o e hx => ?_, fun b xs e => tups b xs (I.base.tups b xs e), fun b o xs e => frzs b o xs (I.base.frzs b o xs e), fun b ps e => ?_⟩, ?_, fun x c e => ?_, ?_, fun x c e => ?_, fun p hp => ?_, hok, I.len⟩
 · exact keep b o (neL b o e) hb (neC b o e hx) (I.base.keep b o e n hb hx) (I.base.free b o e n hx)
 · obtain ⟨sl, e1⟩ := I.base.slot b o e n hb hx
   obtain ⟨sl', e2⟩ := slot b _ (neL b o e) hb (neC b o e hx) e1 (I.base.free b o e n hx)
   exact ⟨sl', e2⟩
 · obtain ⟨o', e1⟩ := I.base.there b o e hx
   exact free b o' (neC b o e hx) e1 (I.base.free b o e n hx)
 · obtain ⟨o', e1⟩ := I.base.there b o e hx
   exact there b o' (neC b o e hx) e1
 · obtain ⟨m1, e1⟩ := I.base.tbls b ps e
   obtain ⟨m2, e2⟩ := tbls b _ e1
   exact ⟨m1 ++ m2, by rw [e2, Array.append_assoc]⟩
 · obtain ⟨m, hn, hl⟩ := I.loc
   refine ⟨m, ns m hn, fun i x v e1 e2 e3 => ?_⟩
   obtain ⟨u, r, l⟩ := hl i x v e1 e2 e3
   refine ⟨u, r, ?_⟩
   rcases l with l | ⟨k, c, e, z⟩
   · exact .inl l
   · exact .inr ⟨k, c, e, cellK x c e _ z⟩
 · obtain ⟨v, z⟩ := I.cell x c e
   exact ⟨v, cellK x c e v z⟩
 · obtain ⟨m, ⟨o, _, _, ho, _⟩, _⟩ := I.loc
   exact free _ o (fun z => (hch _ z).2.1 rfl) ho I.free
 · obtain ⟨v, o, ho, hd⟩ := I.cell x c e
   exact free c o (fun z => (hch c z).2.2.1 x c e rfl) ho (I.freeC x c e)
 · obtain ⟨e, n, ne, nf, d⟩ := I.pin p hp
   have nch : p.1 ∉ ch := fun z => (hch p.1 z).2.2.2 p hp rfl
   exact ⟨keep p.1 p.2 ne nf nch e n, free p.1 p.2 nch e n, ne, nf, d⟩
theorem Inv.un {t' : Nat} (I : Inv X pins σ H s) (u : Un X.fs [] H H' s.heap h') (hok : HOk X.prog X.w H' h') : Inv X pins σ H' { s with heap := h', toks := t' } := by
 obtain ⟨m, ⟨o, es, ep, ho, r⟩, _⟩ := id I.loc
 obtain ⟨sl, hL⟩ := u.any ho I.free (by simp)
 exact I.step (g' := s.gens) (d' := s.drawn) (ch := []) (fun _ z => nomatch z) (fun b o _ hb _ e n => u.keep b o e n hb (by simp)) (fun b o _ hb _ e n => u.slot b o e n hb (by simp)) (fun b o _ e n => u.free b o e n (by simp)) (fun b o _ e => u.there b o e (by simp)) u.tups u.frzs u.tbls (fun m' hm => by
   obtain ⟨o', es', ep', ho', r'⟩ := hm
   rw [ho] at ho'; cases ho'
   exact ⟨_, es', ep', hL, r'⟩) hok I.bare
theorem Inv.call {g' : Array GenState} {t' : Nat} {d' : Drawn} {ch : List Addr} (I : Inv X pins σ H s) (u : Un (frs X.stack) ch H H' s.heap h') (hok : HOk X.prog X.w H' h') (hg : AllBare g')
   (hch : ∀ b ∈ ch, (b ∈ X.ex ∨ X.s_0.heap.objs.size ≤ b) ∧ b ≠ X.env.locals ∧ (∀ x c, X.env.cells.lookup x = some c → c ≠ b) ∧ ∀ p ∈ X.pn ++ pins, p.1 ≠ b) :
   Inv X pins σ H' { s with heap := h', gens := g', drawn := d', toks := t' } := by
 obtain ⟨m, ⟨o, es, ep, ho, r⟩, _⟩ := id I.loc
 obtain ⟨sl, hL⟩ := u.any ho I.free fun z => (hch _ z).2.1 rfl
 exact I.step (ch := ch) hch (fun b o hL hb hc e n => u.keep b o e n (fun z => (List.mem_cons.mp (I.stkSub b z)).elim hL hb) hc) (fun b o _ _ hc e n => u.any e n hc) (fun b o hc e n => u.free b o e n hc) (fun b o hc e => u.there b o e hc) u.tups u.frzs u.tbls (fun m' hm => by
   obtain ⟨o', es', ep', ho', r'⟩ := hm
   rw [ho] at ho'; cases ho'
   exact ⟨_, es', ep', hL, r'⟩) hok hg
theorem Inv.turned {t' : Nat} {it : Addr} (I : Inv X pins σ H s) (k : ∀ b o, b ≠ it → s.heap.get? b = some o → h'.get? b = some o) (hn : H it = none) (hL : it ≠ X.env.locals)
   (h1 : it ∈ X.ex ∨ X.s_0.heap.objs.size ≤ it) (h2 : ∀ x c, X.env.cells.lookup x = some c → c ≠ it) (h3 : ∀ p ∈ X.pn ++ pins, p.1 ≠ it) : Inv X pins σ H { s with heap := h', toks := t' } := by
 have nit : ∀ b u, H b = some u → b ≠ it := fun b u e z => by rw [z, hn] at e; cases e
 refine I.step (g' := s.gens) (d' := s.drawn) (ch := [it]) (fun b hb => ?_) (fun b o _ _ hc e _ => k b o (fun z => hc (by simp [z])) e) (fun b o _ _ hc e _ => ⟨o.slots, k b o (fun z => hc (by simp [z])) e⟩) (fun _ _ _ _ n => n)
   (fun b o hc e => ⟨o, k b o (fun z => hc (by simp [z])) e⟩) (fun _ _ e => e) (fun _ _ _ e => e) (fun b ps e => ⟨#[], by rw [e]; simp⟩) (fun m hm => ?_) (fun b u e => ?_) I.bare
 · have e : b = it := by simpa using hb
   subst e
   exact ⟨h1, hL, h2, h3⟩
 · obtain ⟨o, es, ep, ho, r⟩ := hm
   exact ⟨o, es, ep, k _ o (Ne.symm hL) ho, r⟩
 · refine (I.hok b u e).stay (fun c v hc q => k c v ?_ q) (fun _ q => q) fun _ _ q => q
   rcases hc with z | z
   · rw [z]; exact nit b u e
   · exact nit c _ z
theorem Inv.tok (I : Inv X pins σ H s) (t : Nat) : Inv X pins σ H { s with toks := t } := I.un (h' := s.heap) (t' := t) Un.refl I.hok
theorem Inv.kept {t' : Nat} (I : Inv X pins σ H s) (k : ∀ b u, s.heap.get? b = some u → h'.get? b = some u) : Inv X pins σ H { s with heap := h', toks := t' } := I.un (Un.kept k) (I.hok.kept k)
theorem Inv.laid {a : Addr} {o : HO} {t' : Nat} (I : Inv X pins σ H s) (k : ∀ b u, s.heap.get? b = some u → h'.get? b = some u) (hp : s.heap.objs.size ≤ a) (new : ObjOk X.prog X.w (upd H a o) h' a o) :
   Inv X pins σ (upd H a o) { s with heap := h', toks := t' } := I.un (Un.laid k hp (I.hok.fresh hp)) (I.hok.laid k hp new)
theorem Inv.write {x e : Addr} {o : HO} {t' : Nat} (I : Inv X pins σ H s) (mu : Mut (H x)) (he : e = x ∨ H e = some (.own x)) (k : ∀ b u, b ≠ e → s.heap.get? b = some u → h'.get? b = some u) (heo : ∃ u, h'.get? e = some u)
   (new : ObjOk X.prog X.w (upd H x o) h' x o) : Inv X pins σ (upd H x o) { s with heap := h', toks := t' } := I.un (Un.write mu he k heo) (I.hok.write mu he k heo new)
theorem Inv.weak {σ' : List (Option V)} (I : Inv X pins σ H s) (hl : σ'.length = σ.length) (w : ∀ (i : Nat) v, σ'[i]? = some (some v) → σ[i]? = some (some v)) : Inv X pins σ' H s :=
 ⟨I.ok, I.os, I.bare, I.base, let ⟨m, hn, hl'⟩ := I.loc; ⟨m, hn, fun i x v e1 e2 e3 => hl' i x v e1 (w i v e2) e3⟩, I.cell, I.free, I.freeC, I.pin, I.hok, hl.trans I.len⟩
theorem Inv.pins_of {pins' : List (Addr × Obj)} (I : Inv X pins σ H s) (h : ∀ p ∈ pins', s.heap.get? p.1 = some p.2 ∧ H p.1 = none ∧ p.1 ≠ X.env.locals ∧ p.1 ∉ X.fs ∧ ∀ v, p.2.data ≠ .cell v) : Inv X pins' σ H s :=
 ⟨I.ok, I.os, I.bare, I.base, I.loc, I.cell, I.free, I.freeC, fun p hp => (List.mem_append.mp hp).elim (fun z => I.pin p (List.mem_append_left _ z)) (h p), I.hok, I.len⟩
theorem nodup_ix {N : List Str} (hN : N.Nodup) {i j : Nat} {x : Str} (a : N[i]? = some x) (b : N[j]? = some x) : i = j := by
 obtain ⟨h1, e1⟩ := List.getElem?_eq_some_iff.mp a
 obtain ⟨h2, e2⟩ := List.getElem?_eq_some_iff.mp b
 exact (List.getElem_inj hN).mp (e1.trans e2.symm)
theorem store_ok2 {M : Model} {A : Around} {E : Value → Shared → Prop} {i : Nat} {x : Str} {v : V} {u : Value} {Q : Unit → Shared → Prop} (I : Inv X pins σ H s) (hN : X.N.Nodup) (hi : X.N[i]? = some x) (hx : Loc X.env.scope x) (r : RelV v u)
   (h : ∀ s', Inv X pins (σ.set i (some v)) H s' → (∃ a, Heap.SameBut a s.heap s'.heap ∧ (a = X.env.locals ∨ X.env.cells.lookup x = some a)) → Q () s') (hf : X.fn x = true ∨ X.env.scope.names.lookup x = some .local := by first | exact .inl rfl | exact .inr rfl | assumption) : wpAny M A (storeName X.env x u) Q E s := by
 obtain ⟨m, hn, hl⟩ := id I.loc
 have hcls : (X.env.scope.kind == .class || (X.env.scope.kind == .module && X.env.locals != X.env.globals)) = false := by rw [I.ok.kind]; rfl
 have hiσ : i < σ.length := by rw [I.len]; exact (List.getElem?_eq_some_iff.mp hi).1
 have cne := I.cne
 have tracked : ∀ {a : Addr} {h' : Heap}, (∃ o, s.heap.get? a = some o ∧ H a = none) → Heap.SameBut a s.heap h' → HOk X.prog X.w H h' := fun {a h'} ha hs b ob e => by
   obtain ⟨_, _, hfree⟩ := ha
   refine (I.hok b ob e).stay (fun c w' hc q => (hs.2 c ?_).trans q) (fun _ q => q) fun _ _ q => q
   rintro rfl
   rcases hc with rfl | hc
   · rw [hfree] at e; cases e
   · rw [hfree] at hc; cases hc
 rcases hx with hk | hk
 · refine wpAny_storeName_local hk hn (fun h' hn' hs => ?_) hcls
   obtain ⟨oL, _, _, hoL, _⟩ := id hn
   refine h _ ⟨I.ok, I.os, I.bare, ⟨fun b o e n hb hx => ?_, fun b o e n hb hx => ?_, I.base.free, fun b o e hx => ?_, I.base.tups, I.base.frzs, I.base.tbls⟩, ⟨_, hn', fun j y v' e1 e2 e3 => ?_⟩, fun y c e => ?_, I.free, I.freeC, fun p hp => ?_, tracked ⟨oL, hoL, I.free⟩ hs, by simpa using I.len⟩ ⟨_, hs, .inl rfl⟩
   · exact (hs.2 b (Nat.ne_of_lt (Nat.lt_of_lt_of_le (Heap.lt_size e) I.ok.above))).trans (I.base.keep b o e n hb hx)
   · obtain ⟨sl, e1⟩ := I.base.slot b o e n hb hx
     exact ⟨sl, (hs.2 b (Nat.ne_of_lt (Nat.lt_of_lt_of_le (Heap.lt_size e) I.ok.above))).trans e1⟩
   · obtain ⟨o', e1⟩ := I.base.there b o e hx
     exact ⟨o', (hs.2 b (Nat.ne_of_lt (Nat.lt_of_lt_of_le (Heap.lt_size e) I.ok.above))).trans e1⟩
   · by_cases hj : j = i
     · subst hj
       rw [hi] at e1; cases e1
       rw [List.getElem?_set_self hiσ] at e2
       cases e2
       exact ⟨u, r, .inl ⟨hk, by simp⟩⟩
     · rw [List.getElem?_set_ne (Ne.symm hj)] at e2
       obtain ⟨u', r', q⟩ := hl j y v' e1 e2 e3
       refine ⟨u', r', ?_⟩
       rcases q with ⟨k, e⟩ | ⟨k, c, e, z⟩
       · refine .inl ⟨k, ?_⟩
         have : y ≠ x := fun e => hj (nodup_ix hN e1 (e ▸ hi))
         simp [this, e]
       · exact .inr ⟨k, c, e, z.sameBut hs (cne y c e)⟩
   · obtain ⟨w', z⟩ := I.cell y c e
     exact ⟨w', z.sameBut hs (cne y c e)⟩
   · obtain ⟨e, n, ne, nf, d⟩ := I.pin p hp
     exact ⟨(hs.2 p.1 ne).trans e, n, ne, nf, d⟩
 · have hfn : X.fn x = true := by
     rcases hf with z | z
     · exact z
     · rw [z] at hk; cases hk
   obtain ⟨c, hc⟩ := I.ok.has x (.inl hk)
   obtain ⟨w', z⟩ := I.cell x c hc
   refine wpAny_storeName_cell I.ok.kind hk hc z (fun h' hc' hs => ?_)
   obtain ⟨oc, hoc, hocd⟩ := id z
   refine h { s with heap := h' } ⟨I.ok, I.os, I.bare, ⟨fun b o e n hb hx => ?_, fun b o e n hb hx => ?_, I.base.free, fun b o e hx => ?_, I.base.tups, I.base.frzs, I.base.tbls⟩, ⟨m, hn.sameBut hs (Ne.symm (cne x c hc)), fun j y v' e1 e2 e3 => ?_⟩, fun y c' e => ?_, I.free, I.freeC, fun p hp => ?_, tracked ⟨oc, hoc, I.freeC x c hc⟩ hs, by simpa using I.len⟩ ⟨c, hs, .inr hc⟩
   · exact (hs.2 b (Nat.ne_of_lt (Nat.lt_of_lt_of_le (Heap.lt_size e) (I.ok.cab x c hfn hc)))).trans (I.base.keep b o e n hb hx)
   · obtain ⟨sl, e1⟩ := I.base.slot b o e n hb hx
     exact ⟨sl, (hs.2 b (Nat.ne_of_lt (Nat.lt_of_lt_of_le (Heap.lt_size e) (I.ok.cab x c hfn hc)))).trans e1⟩
   · obtain ⟨o', e1⟩ := I.base.there b o e hx
     exact ⟨o', (hs.2 b (Nat.ne_of_lt (Nat.lt_of_lt_of_le (Heap.lt_size e) (I.ok.cab x c hfn hc)))).trans e1⟩
   · by_cases hj : j = i
     · subst hj
       rw [hi] at e1; cases e1
       rw [List.getElem?_set_self hiσ] at e2
       cases e2
       exact ⟨u, r, .inr ⟨.inl hk, c, hc, hc'⟩⟩
     · rw [List.getElem?_set_ne (Ne.symm hj)] at e2
       obtain ⟨u', r', q⟩ := hl j y v' e1 e2 e3
       refine ⟨u', r', ?_⟩
       rcases q with q | ⟨k, c', e, z'⟩
       · exact .inl q
       · refine .inr ⟨k, c', e, z'.sameBut hs ?_⟩
         rintro rfl
         exact hj (nodup_ix hN e1 (I.ok.inj _ _ _ e hc ▸ hi))
   · by_cases hcc : c' = c
     · subst hcc; exact ⟨_, hc'⟩
     · obtain ⟨w2, z2⟩ := I.cell y c' e
       exact ⟨w2, z2.sameBut hs hcc⟩
   · obtain ⟨e, n, ne, nf, d⟩ := I.pin p hp
     refine ⟨(hs.2 p.1 ?_).trans e, n, ne, nf, d⟩
     intro q
     rw [q, hoc] at e
     have q' : oc = p.2 := Option.some.inj e
     exact d w' (by rw [← q']; exact hocd)
theorem store_ok {M : Model} {A : Around} {E : Value → Shared → Prop} {i : Nat} {x : Str} {v : V} {u : Value} {Q : Unit → Shared → Prop} (I : Inv X pins σ H s) (hN : X.N.Nodup) (hi : X.N[i]? = some x) (hx : Loc X.env.scope x) (r : RelV v u)
   (h : ∀ s', Inv X pins (σ.set i (some v)) H s' → Q () s') (hf : X.fn x = true ∨ X.env.scope.names.lookup x = some .local := by first | exact .inl rfl | exact .inr rfl | assumption) : wpAny M A (storeName X.env x u) Q E s :=
 store_ok2 I hN hi hx r (fun s' I' _ => h s' I') hf
theorem Inv.call' {s' : Shared} {ch : List Addr} (I : Inv X pins σ H s) (ho : s'.os = s.os) (u : Un (frs X.stack) ch H H' s.heap s'.heap) (hok : HOk X.prog X.w H' s'.heap) (hg : AllBare s'.gens)
   (hch : ∀ b ∈ ch, (b ∈ X.ex ∨ X.s_0.heap.objs.size ≤ b) ∧ b ≠ X.env.locals ∧ (∀ x c, X.env.cells.lookup x = some c → c ≠ b) ∧ ∀ p ∈ X.pn ++ pins, p.1 ≠ b) : Inv X pins σ H' s' := by
 obtain ⟨h', g', d', t', o'⟩ := s'
 have e : o' = s.os := ho
 subst e
 exact I.call (g' := g') (t' := t') (d' := d') u hok hg hch
end
abbrev XK := Value → Option Addr → Hp → Prop
abbrev St := List (Option V)
abbrev VK := V → Hp → Prop
abbrev TE := St → Hp → VK → Prop
abbrev TT := St → Hp → (Bool → Hp → Prop) → Prop
abbrev TA := St → Hp → (List V → Hp → Prop) → Prop
structure Ends where
 nx : St → Hp → Prop
 rt : VK
 bk : St → Hp → Prop := fun _ _ => False
 ct : St → Hp → Prop := fun _ _ => False
abbrev TS := Ends → St → Hp → Prop
def EP (X : Cx) (pins : List (Addr × Obj)) (σ : St) (Q : VK) (u : Value) (s' : Shared) : Prop := ∃ v H', Inv X pins σ H' s' ∧ RelV v u ∧ Q v H'
def TP (X : Cx) (pins : List (Addr × Obj)) (σ : St) (Q : Bool → Hp → Prop) (b : Bool) (s' : Shared) : Prop := ∃ H', Inv X pins σ H' s' ∧ Q b H'
def AP (X : Cx) (pins : List (Addr × Obj)) (σ : St) (Q : List V → Hp → Prop) (us : List Value) (s' : Shared) : Prop := ∃ vs H', Inv X pins σ H' s' ∧ Vals vs us ∧ Q vs H'
def SP (X : Cx) (pins : List (Addr × Obj)) (D : Ends) (f : Flow) (s' : Shared) : Prop :=
 match f with
 | .next => ∃ σ' H', Inv X pins σ' H' s' ∧ D.nx σ' H'
 | .brk => ∃ σ' H', Inv X pins σ' H' s' ∧ D.bk σ' H'
 | .cont => ∃ σ' H', Inv X pins σ' H' s' ∧ D.ct σ' H'
 | .ret u => ∃ v σ' H', Inv X pins σ' H' s' ∧ RelV v u ∧ D.rt v H'
def PE (X : Cx) (e : Expr) (t : TE) : Prop :=
 ∀ (pins : List (Addr × Obj)) (s : Shared) (σ : St) (H : Hp) (Q : VK), Inv X pins σ H s → t σ H Q → wpAny (model X.prog X.w) X.A (eval e X.env) (EP X pins σ Q) X.xe s
def PT (X : Cx) (e : Expr) (t : TT) : Prop :=
 ∀ (pins : List (Addr × Obj)) (s : Shared) (σ : St) (H : Hp) (Q : Bool → Hp → Prop), Inv X pins σ H s → t σ H Q → wpAny (model X.prog X.w) X.A (isTrue e X.env (eval e X.env)) (TP X pins σ Q) X.xe s
def PW (X : Cx) (e : Expr) (t : TT) : Prop :=
 ∀ (whole : Sem Value) (pins : List (Addr × Obj)) (s : Shared) (σ : St) (H : Hp) (Q : Bool → Hp → Prop), Inv X pins σ H s → t σ H Q → wpAny (model X.prog X.w) X.A (isTrue e X.env whole) (TP X pins σ Q) X.xe s
theorem PW.pt {X : Cx} {e : Expr} {t : TT} (h : PW X e t) : PT X e t := h _
def PA (X : Cx) (es : List Expr) (t : TA) : Prop :=
 ∀ (pos : Pos) (pins : List (Addr × Obj)) (s : Shared) (σ : St) (H : Hp) (Q : List V → Hp → Prop), Inv X pins σ H s → t σ H Q → wpAny (model X.prog X.w) X.A (spliced (backTo pos (starEach es X.env))) (AP X pins σ Q) X.xe s
def PS (X : Cx) (st : Stmt) (t : TS) : Prop :=
 ∀ (pins : List (Addr × Obj)) (s : Shared) (σ : St) (H : Hp) (D : Ends), Inv X pins σ H s → t D σ H → wpAny (model X.prog X.w) X.A (exec st X.env) (SP X pins D) X.xe s
def PSs (X : Cx) (st : List Stmt) (t : TS) : Prop :=
 ∀ (pins : List (Addr × Obj)) (s : Shared) (σ : St) (H : Hp) (D : Ends), Inv X pins σ H s → t D σ H → wpAny (model X.prog X.w) X.A (execs st X.env) (SP X pins D) X.xe s
theorem thn {α : Type} {t : Sem α} {Q Q' : α → Shared → Prop} {M : Model} {A : Around} {E : Value → Shared → Prop} {s : Shared} (h : wpAny M A t Q E s) (hQ : ∀ a s, Q a s → Q' a s) : wpAny M A t Q' E s := wpAny_mono h hQ fun _ _ x => x
end L2
namespace L2
open PySem PySem.Spec PyProof.Rows
section
variable {X : Cx}
theorem bin {a b : Expr} {ta tb : TE} (ha : PE X a ta) (hb : PE X b tb) {pins : List (Addr × Obj)} {s : Shared} {σ : St} {H : Hp} {R : V → V → Hp → Prop} (I : Inv X pins σ H s) (h : ta σ H fun x H1 => tb σ H1 fun y H2 => R x y H2)
   {α : Type} {Q : α → Shared → Prop} {f : Value → Value → Sem α}
   (hf : ∀ v u s2 x y H2, Inv X pins σ H2 s2 → RelV x v → RelV y u → R x y H2 → wpAny (model X.prog X.w) X.A (f v u) Q X.xe s2) :
   wpAny (model X.prog X.w) X.A (eval a X.env) (fun v s₁ => wpAny (model X.prog X.w) X.A (eval b X.env) (fun u s₂ => wpAny (model X.prog X.w) X.A (f v u) Q X.xe s₂) X.xe s₁) X.xe s := by
 refine thn (ha pins s σ H _ I h) fun v s1 ⟨x, H1, I1, r1, q1⟩ => ?_
 refine thn (hb pins s1 σ H1 _ I1 q1) fun u s2 ⟨y, H2, I2, r2, q2⟩ => ?_
 exact hf v u s2 x y H2 I2 r1 r2 q2
def tVar (i : Nat) : TE := fun σ H Q => ∃ v, σ[i]? = some (some v) ∧ Q v H
def tC (v : V) : TE := fun _ H Q => Q v H
theorem pe_var {i : Nat} {x : Str} {pos : Pos} (hN : X.N[i]? = some x) (hv : Vis X.env.scope x) (hd : (x == ("__debug__" : Str)) = false := by decide) (hcd : (x == ("__classdict__" : Str)) = false := by decide) : PE X (.Name x pos) (tVar i) := by
 intro pins s σ H Q I h
 obtain ⟨v, e, h⟩ := h
 obtain ⟨m, hn, hl⟩ := I.loc
 obtain ⟨u, r, l⟩ := hl i x v hN e hv
 have fin : EP X pins σ Q u s := ⟨v, H, I, r, h⟩
 rcases l with ⟨hk, hm⟩ | ⟨hk, c, hc, hcell⟩
 · exact wpAny_Name (wpAny_loadName_local I.ok.kind hk hn hm fin) hd
 · rcases hk with hk | hk
   · exact wpAny_Name (wpAny_loadName_cell I.ok.kind hk hc hcell fin) hd
   · exact wpAny_Name (wpAny_loadName_free I.ok.kind hk hc hcell fin hcd) hd
theorem pe_int {i j pos} : PE X (.Constant (.int i) j pos) (tC (.int i)) := fun _ _ _ H _ I h => wpAny_Constant_int ⟨.int i, H, I.tok _, ⟨_, rfl⟩, h⟩
theorem pe_bl {b j pos} : PE X (.Constant (.bool b) j pos) (tC (.bl b)) := fun _ _ _ H _ I h => Constant_bool ⟨.bl b, H, I, rfl, h⟩
theorem pe_non {j pos} : PE X (.Constant .none j pos) (tC .non) := fun _ _ _ H _ I h => Constant_none ⟨.non, H, I, rfl, h⟩
def Gl (X : Cx) (x : Str) : Prop := X.env.kindOf x = some .globalImplicit
theorem ld_glob {E : Value → Shared → Prop} {pins : List (Addr × Obj)} {s : Shared} {σ : St} {H : Hp} {x : Str} {u : Value} {pos : Pos} {Q : Value → Shared → Prop} (I : Inv X pins σ H s) (hg : Gl X x) (hm : X.mg x = some u) (h : Q u s)
   (hd : (x == ("__debug__" : Str)) = false := by decide) : wpAny (model X.prog X.w) X.A (eval (.Name x pos) X.env) Q E s :=
 Calls.Name_function_global I.ok.kind hg (Calls.loadGlobal_global (by rw [I.ok.glob]; exact I.mod.glob.keeps I.bk) hm h) hd
theorem ld_blt {E : Value → Shared → Prop} {pins : List (Addr × Obj)} {s : Shared} {σ : St} {H : Hp} {x : Str} {u : Value} {pos : Pos} {Q : Value → Shared → Prop} (I : Inv X pins σ H s) (hg : Gl X x) (hm : X.mg x = none) (hv : bootBuiltins x = some u) (h : Q u s)
   (hn : x ≠ "__name__" := by decide) (hd : (x == ("__debug__" : Str)) = false := by decide) : wpAny (model X.prog X.w) X.A (eval (.Name x pos) X.env) Q E s := by
 obtain ⟨mb, h1, h2⟩ := I.mod.blt
 exact Calls.Name_function_global I.ok.kind hg (Calls.loadGlobal_builtin (by rw [I.ok.glob]; exact I.mod.glob.keeps I.bk) hm (by rw [I.ok.blt]; exact h1.keeps I.bk) ((h2 x hn).trans hv) h) hd
theorem pe_glob {x : Str} {v : V} {u : Value} {pos : Pos} (hg : Gl X x) (hm : X.mg x = some u) (r : RelV v u) (hd : (x == ("__debug__" : Str)) = false := by decide) : PE X (.Name x pos) (tC v) :=
 fun _ _ _ H _ I h => ld_glob I hg hm ⟨v, H, I, r, h⟩ hd
variable {a b : Expr} {ta tb : TE} {pos : Pos}
def PC (X : Cx) (op : CmpOp) (a b : Expr) (t : TE) : Prop :=
 ∀ (pins : List (Addr × Obj)) (s : Shared) (σ : St) (H : Hp) (Q : VK), Inv X pins σ H s → t σ H Q →
   wpAny (model X.prog X.w) X.A (eval a X.env) (fun v s₁ => wpAny (model X.prog X.w) X.A (eval b X.env) (fun u s₂ => wpAny (model X.prog X.w) X.A (compareOp op v u) (EP X pins σ Q) X.xe s₂) X.xe s₁) X.xe s
def tB (t : TE) : TT := fun σ H Q => t σ H fun x H1 => ∃ c, x = .bl c ∧ Q c H1
theorem pt_cmp {op : CmpOp} {t : TE} (h : PC X op a b t) (h1 : behindInMarks op b = false := by first | exact nobehind _ (by decide) (by decide) | rfl) : PT X (.Compare a [op] [b] pos) (tB t) := by
 intro pins s σ H Q I hw
 refine wpAny_isTrue_Compare1 (thn (h pins s σ H _ I hw) fun v s1 h1 => thn h1 fun u s2 h2 => thn h2 fun c s3 ⟨x, H1, I1, r1, q1⟩ => ?_) h1
 obtain ⟨d, rfl, q⟩ := q1
 cases r1
 exact wpAny_truthy_bool ⟨H1, I1, q⟩
theorem pt_val {e : Expr} {t : TE} (h : PE X e t) (he : ∀ whole, isTrue e X.env whole = (do let v ← whole; standAt e.pos; holding [v] (truthy v)) := by intro _; rfl) : PT X e (tB t) := by
 intro pins s σ H Q I hw
 refine isTrue_plain (thn (h pins s σ H _ I hw) fun v s1 ⟨x, H1, I1, r1, q1⟩ => ?_) (he _)
 obtain ⟨d, rfl, q⟩ := q1
 cases r1
 exact wpAny_truthy_bool ⟨H1, I1, q⟩
variable {tA tB' : TT} {rest : List Expr}
def tAnd (t u : TT) : TT := fun σ H Q => t σ H fun c H1 => if c = true then u σ H1 Q else Q false H1
def tOr (t u : TT) : TT := fun σ H Q => t σ H fun c H1 => if c = true then Q true H1 else u σ H1 Q
def tNot (t : TT) : TT := fun σ H Q => t σ H fun c H1 => Q (!c) H1
theorem pw_and1 (ha : PT X a tA) : PW X (.BoolOp .And [a] pos) tA := by
 intro wh pins s σ H Q I h
 refine isTrue_and (thn (ha pins s σ H Q I h) fun c s1 e => ?_)
 cases c with
 | true => exact isTrue_and_nil e
 | false => exact e
theorem pw_or1 (ha : PT X a tA) : PW X (.BoolOp .Or [a] pos) tA := by
 intro wh pins s σ H Q I h
 refine isTrue_or (thn (ha pins s σ H Q I h) fun c s1 e => ?_)
 cases c with
 | false => exact isTrue_or_nil e
 | true => exact e
theorem pw_and (ha : PT X a tA) (hb : PW X (.BoolOp .And (b :: rest) pos) tB') : PW X (.BoolOp .And (a :: b :: rest) pos) (tAnd tA tB') := by
 intro wh pins s σ H Q I h
 refine isTrue_and (thn (ha pins s σ H _ I h) fun c s1 ⟨H1, I1, q1⟩ => ?_)
 cases c with
 | true => exact hb wh pins s1 σ H1 Q I1 q1
 | false => exact ⟨H1, I1, q1⟩
theorem pw_or (ha : PT X a tA) (hb : PW X (.BoolOp .Or (b :: rest) pos) tB') : PW X (.BoolOp .Or (a :: b :: rest) pos) (tOr tA tB') := by
 intro wh pins s σ H Q I h
 refine isTrue_or (thn (ha pins s σ H _ I h) fun c s1 ⟨H1, I1, q1⟩ => ?_)
 cases c with
 | true => exact ⟨H1, I1, q1⟩
 | false => exact hb wh pins s1 σ H1 Q I1 q1
theorem pt_not (ha : PT X a tA) : PT X (.UnaryOp .Not a pos) (tNot tA) := by
 intro pins s σ H Q I h
 exact isTrue_not (ha pins s σ H (fun c H1 => Q (!c) H1) I h)
def tAndV (ta tb : TE) : TE := fun σ H Q => ta σ H fun x H1 => ∃ c, x = .bl c ∧ if c = true then tb σ H1 Q else Q (.bl false) H1
def tNotV (ta : TE) : TE := fun σ H Q => ta σ H fun x H1 => ∃ c, x = .bl c ∧ Q (.bl (!c)) H1
theorem pe_one {op} {t : TE} (h : PE X a t) : PE X (.BoolOp op [a] pos) t := fun pins s σ H Q I hw => BoolOp_one (h pins s σ H Q I hw)
theorem pe_and (ha : PE X a ta) (hb : PE X (.BoolOp .And (b :: rest) pos) tb) : PE X (.BoolOp .And (a :: b :: rest) pos) (tAndV ta tb) := by
 intro pins s σ H Q I h
 refine BoolOp_and (thn (ha pins s σ H _ I h) fun v s1 ⟨x, H1, I1, r1, q1⟩ => ?_)
 obtain ⟨c, rfl, q1⟩ := q1
 cases r1
 refine wpAny_truthy_bool ?_
 cases c with
 | true => exact hb pins s1 σ H1 Q I1 q1
 | false => exact ⟨.bl false, H1, I1, rfl, q1⟩
theorem pe_not (ha : PE X a ta) : PE X (.UnaryOp .Not a pos) (tNotV ta) := by
 intro pins s σ H Q I h
 refine UnaryOp_ (thn (ha pins s σ H _ I h) fun v s1 ⟨x, H1, I1, r1, q1⟩ => ?_)
 obtain ⟨c, rfl, q1⟩ := q1
 cases r1
 exact not_of (wpAny_truthy_bool ⟨.bl (!c), H1, I1, rfl, q1⟩)
def tIf (t : TT) (ta tb : TE) : TE := fun σ H Q => t σ H fun c H1 => if c = true then ta σ H1 Q else tb σ H1 Q
theorem pe_ifExp {c : Expr} (hc : PT X c tA) (ha : PE X a ta) (hb : PE X b tb) : PE X (.IfExp c a b pos) (tIf tA ta tb) := by
 intro pins s σ H Q I h
 refine wpAny_IfExp (thn (hc pins s σ H _ I h) fun d s1 ⟨H1, I1, q1⟩ => ?_)
 cases d with
 | true => exact ha pins s1 σ H1 Q I1 q1
 | false => exact hb pins s1 σ H1 Q I1 q1
end
end L2
namespace L2
open PySem PySem.Spec PyProof.Rows
def SqL (K : PySem.W.Frag) (H : Hp) (a : Addr) (xs : List V) : Prop :=
 Rd H a (.lst xs) ∨
   ∃ (o : Obj) (its : Array Value) (n : Nat), K.lookup a = some o ∧ o.cls = .type "list" ∧ o.dict = none ∧ o.data = .seq its n ∧ its.size ≤ sizeLine ∧ Vals xs its.toList
def SqT (K : PySem.W.Frag) (H : Hp) (a : Addr) (xs : List V) : Prop :=
 Rd H a (.tup xs) ∨
   ∃ (o : Obj) (its : Array Value) (n : Nat), K.lookup a = some o ∧ o.cls = .type "tuple" ∧ o.data = .seq its n ∧ its.size ≤ sizeLine ∧ Vals xs its.toList
def absV : Value → Option V
 | .none => some .non
 | .bool b => some (.bl b)
 | .int i _ => some (.int i)
 | .str x _ => some (.str x)
 | .bytes b _ => some (.byt b)
 | .float b _ => some (.flt b)
 | .ref a => some (.ref a)
 | .type n => some (.ty n)
 | _ => none
theorem RelV.abs {x : V} {u : Value} (r : RelV x u) : absV u = some x := by
 cases x with
 | non => cases r; rfl
 | bl _ => cases r; rfl
 | int _ => obtain ⟨t, rfl⟩ := r; rfl
 | str _ => obtain ⟨t, rfl⟩ := r; rfl
 | byt _ => obtain ⟨t, rfl⟩ := r; rfl
 | flt _ => obtain ⟨t, rfl⟩ := r; rfl
 | ref _ => cases r; rfl
 | ty _ => cases r; rfl
theorem RelV.inj {x y : V} {u : Value} (r : RelV x u) (q : RelV y u) : x = y := Option.some.inj (r.abs.symm.trans q.abs)
theorem Vals.inj : ∀ {xs ys : List V} {us : List Value}, Vals xs us → Vals ys us → xs = ys
 | _, _, _, .nil, .nil => rfl
 | _, _, _, .cons r t, .cons r' t' => by rw [r.inj r', Vals.inj t t']
section
variable {X : Cx} {pins : List (Addr × Obj)} {σ : St} {H : Hp} {s : Shared} {a : Addr} {xs ys : List V}
theorem SqL.of {K : PySem.W.Frag} (h : H a = some (.lst xs)) : SqL K H a xs := .inl (.inl h)
theorem SqT.of {K : PySem.W.Frag} (h : H a = some (.tup xs)) : SqT K H a xs := .inl (.inl h)
theorem Inv.list (I : Inv X pins σ H s) (h : SqL X.K H a xs) : ∃ its : List Value, Vals xs its ∧ PlainL s.heap a its.toArray ∧ xs.length ≤ sizeLine := by
 rcases h with h | ⟨o, its, n, hk, hc, hd, hs, hz, r⟩
 · obtain ⟨z, its, n, r, e⟩ := h.ok I.hok
   exact ⟨its, r, ⟨_, n, e, rfl, rfl, rfl⟩, z⟩
 · refine ⟨its.toList, r, ⟨o, n, I.kIn a o hk, hc, hd, by simpa using hs⟩, ?_⟩
   have e := r.length
   simp only [Array.length_toList] at e
   omega
theorem Inv.tuple (I : Inv X pins σ H s) (h : SqT X.K H a xs) : ∃ its : List Value, Vals xs its ∧ IsTup s.heap a its.toArray ∧ xs.length ≤ sizeLine := by
 rcases h with h | ⟨o, its, n, hk, hc, hs, hz, r⟩
 · obtain ⟨z, its, r, p⟩ := h.ok I.hok
   exact ⟨its, r, p, z⟩
 · refine ⟨its.toList, r, ⟨o, I.kIn a o hk, hc, n, by simpa using hs⟩, ?_⟩
   have e := r.length
   simp only [Array.length_toList] at e
   omega
theorem Inv.list_inj (I : Inv X pins σ H s) (h : SqL X.K H a xs) (h' : SqL X.K H a ys) : xs = ys := by
 obtain ⟨its, r, ⟨o, n, e, _, _, d⟩, _⟩ := I.list h
 obtain ⟨its', r', ⟨o', n', e', _, _, d'⟩, _⟩ := I.list h'
 rw [e] at e'; cases e'
 rw [d] at d'
 injection d' with d1 _
 have : its = its' := by simpa using congrArg Array.toList d1
 subst this
 exact r.inj r'
theorem Inv.tuple_inj (I : Inv X pins σ H s) (h : SqT X.K H a xs) (h' : SqT X.K H a ys) : xs = ys := by
 obtain ⟨its, r, ⟨o, e, _, n, d⟩, _⟩ := I.tuple h
 obtain ⟨its', r', ⟨o', e', _, n', d'⟩, _⟩ := I.tuple h'
 rw [e] at e'; cases e'
 rw [d] at d'
 injection d' with d1 _
 have : its = its' := by simpa using congrArg Array.toList d1
 subst this
 exact r.inj r'
end
abbrev Cx.wish (X : Cx) (E : Value → Shared → Prop) : Cx := { X with xe := E }
abbrev Cx.nox (X : Cx) : Cx := X.wish fun _ _ => False
theorem Cx.Ok.wish {X : Cx} (ok : X.Ok) (E : Value → Shared → Prop) : (X.wish E).Ok :=
 ⟨ok.mod, ok.kind, ok.glob, ok.blt, ok.above, ok.inj, ok.has, ok.cab, ok.hd, ok.frames, ok.stk, ok.exf, ok.bs, ok.bsz, ok.noex, ok.exfs, ok.funs, ok.frf⟩
theorem Cx.Ok.unwish {X : Cx} {E : Value → Shared → Prop} (ok : (X.wish E).Ok) : X.Ok :=
 ⟨ok.mod, ok.kind, ok.glob, ok.blt, ok.above, ok.inj, ok.has, ok.cab, ok.hd, ok.frames, ok.stk, ok.exf, ok.bs, ok.bsz, ok.noex, ok.exfs, ok.funs, ok.frf⟩
section
variable {X : Cx} {pins : List (Addr × Obj)} {σ : St} {H : Hp} {s : Shared} {E : Value → Shared → Prop}
theorem Inv.wish (I : Inv X pins σ H s) (E : Value → Shared → Prop) : Inv (X.wish E) pins σ H s := ⟨I.ok.wish E, I.os, I.bare, I.base, I.loc, I.cell, I.free, I.freeC, I.pin, I.hok, I.len⟩
theorem Inv.unwish (I : Inv (X.wish E) pins σ H s) : Inv X pins σ H s := ⟨I.ok.unwish, I.os, I.bare, I.base, I.loc, I.cell, I.free, I.freeC, I.pin, I.hok, I.len⟩
theorem SP.unwish {D : Ends} {f : Flow} {s' : Shared} (h : SP (X.wish E) pins D f s') : SP X pins D f s' := by
 cases f with
 | next => obtain ⟨σ', H', I, q⟩ := h; exact ⟨σ', H', I.unwish, q⟩
 | brk => obtain ⟨σ', H', I, q⟩ := h; exact ⟨σ', H', I.unwish, q⟩
 | cont => obtain ⟨σ', H', I, q⟩ := h; exact ⟨σ', H', I.unwish, q⟩
 | ret u => obtain ⟨v, σ', H', I, r, q⟩ := h; exact ⟨v, σ', H', I.unwish, r, q⟩
theorem PSs.nox {st : List Stmt} {t : TS} (h : PSs X.nox st t) : PSs X st t := fun pins s σ H D I hw =>
 wpAny_mono (h pins s σ H D (I.wish _) hw) (fun _ _ q => q.unwish) fun _ _ z => False.elim z
end
section
variable {X : Cx} {st : Stmt} {rest : List Stmt} {t u : TS} {e : Expr} {te : TE} {pos : Pos}
def tNext : TS := fun D σ H => D.nx σ H
def tSeq (t u : TS) : TS := fun D σ H => t { D with nx := u D } σ H
theorem pss_nil : PSs X [] tNext := fun _ _ σ H _ I h => wpAny_execs_nil ⟨σ, H, I, h⟩
theorem pss_cons (h1 : PS X st t) (h2 : PSs X rest u) : PSs X (st :: rest) (tSeq t u) := by
 intro pins s σ H D I h
 refine wpAny_execs_cons (thn (h1 pins s σ H { D with nx := u D } I h) fun f s1 q => ?_)
 cases f with
 | next =>
   obtain ⟨σ', H', I', q⟩ := q
   exact h2 pins s1 σ' H' D I' q
 | ret v => exact q
 | brk => exact q
 | cont => exact q
theorem pss_one (h1 : PS X st t) : PSs X [st] t := by
 intro pins s σ H D I h
 refine wpAny_execs_cons (thn (h1 pins s σ H D I h) fun f s1 q => ?_)
 cases f with
 | next => exact wpAny_execs_nil q
 | ret v => exact q
 | brk => exact q
 | cont => exact q
def tBreak : TS := fun D σ H => D.bk σ H
theorem ps_break : PS X (.Break pos) tBreak := fun _ _ σ H _ I h => wpAny_Break ⟨σ, H, I, h⟩
theorem Inv.quiet {pins : List (Addr × Obj)} {σ : St} {H : Hp} {s : Shared} (I : Inv X pins σ H s) : interactive X.env = false := by simp [interactive, I.ok.kind]
def tDrop (te : TE) : TS := fun D σ H => te σ H fun _ H1 => D.nx σ H1
theorem ps_expr (he : PE X e te) (hs : swapsWith e none pos.line X.env = pure false := by rfl) : PS X (.Expr e pos) (tDrop te) := by
 intro pins s σ H D I h
 exact wpAny_Expr_any (thn (he pins s σ H _ I h) fun v s1 ⟨x, H1, I1, r1, q1⟩ => ⟨σ, H1, I1, q1⟩) I.quiet hs
def tRet (te : TE) : TS := fun D σ H => te σ H D.rt
theorem ps_ret (he : PE X e te) : PS X (.Return (some e) pos) (tRet te) := by
 intro pins s σ H D I h
 exact wpAny_Return_some (thn (he pins s σ H _ I h) fun v s1 ⟨x, H1, I1, r1, q1⟩ => ⟨x, σ, H1, I1, r1, q1⟩)
def tIfS (c : TT) (t u : TS) : TS := fun D σ H => c σ H fun b H1 => if b = true then t D σ H1 else u D σ H1
theorem ps_if {c : Expr} {a b : List Stmt} {tc : TT} (hc : PT X c tc) (ha : PSs X a t) (hb : PSs X b u) : PS X (.If c a b pos) (tIfS tc t u) := by
 intro pins s σ H D I h
 refine wpAny_If (thn (hc pins s σ H _ I h) fun d s1 ⟨H1, I1, q1⟩ => ?_)
 cases d with
 | true => exact ha pins s1 σ H1 D I1 q1
 | false => exact hb pins s1 σ H1 D I1 q1
end
abbrev TG := V → St → Hp → (St → Hp → Prop) → Prop
abbrev TGs := List V → St → Hp → (St → Hp → Prop) → Prop
def PG (X : Cx) (target : Expr) (t : TG) : Prop :=
 ∀ (pins : List (Addr × Obj)) (s : Shared) (σ : St) (H : Hp) (v : V) (u : Value) (Q : St → Hp → Prop), Inv X pins σ H s → RelV v u → t v σ H Q →
   wpAny (model X.prog X.w) X.A (assign target X.env u) (fun _ s' => ∃ σ' H', Inv X pins σ' H' s' ∧ Q σ' H') X.xe s
def PGs (X : Cx) (ts : List Expr) (t : TGs) : Prop :=
 ∀ (pins : List (Addr × Obj)) (s : Shared) (σ : St) (H : Hp) (vs : List V) (us : List Value) (Q : St → Hp → Prop), Inv X pins σ H s → Vals vs us → t vs σ H Q →
   wpAny (model X.prog X.w) X.A (assignInOrder ((assignEach ts X.env).map (·.2)) us) (fun _ s' => ∃ σ' H', Inv X pins σ' H' s' ∧ Q σ' H') X.xe s
abbrev TSet := V → V → V → Hp → (Hp → Prop) → Prop
def PSet (X : Cx) (t : TSet) : Prop :=
 ∀ (pins : List (Addr × Obj)) (s : Shared) (σ : St) (H : Hp) (o i v : V) (ov iv u : Value) (Q : Hp → Prop), Inv X pins σ H s → RelV o ov → RelV i iv → RelV v u → t o i v H Q →
   wpAny (model X.prog X.w) X.A (setItem ov iv u) (fun _ s' => ∃ H', Inv X pins σ H' s' ∧ Q H') X.xe s
abbrev TIp := V → V → Hp → VK → Prop
def PIp (X : Cx) (op : Operator) (t : TIp) : Prop :=
 ∀ (pins : List (Addr × Obj)) (s : Shared) (σ : St) (H : Hp) (x y : V) (v u : Value) (Q : VK), Inv X pins σ H s → RelV x v → RelV y u → t x y H Q →
   wpAny (model X.prog X.w) X.A (inplaceOp op v u) (EP X pins σ Q) X.xe s
section
variable {X : Cx} {pos : Pos}
def gName (i : Nat) : TG := fun v σ H Q => Q (σ.set i (some v)) H
theorem pg_name {i : Nat} {x : Str} (hN : X.N.Nodup) (hi : X.N[i]? = some x) (hx : Loc X.env.scope x) (hf : X.fn x = true ∨ X.env.scope.names.lookup x = some .local := by first | exact .inl rfl | exact .inr rfl | assumption) : PG X (.Name x pos) (gName i) := by
 intro pins s σ H v u Q I r h
 exact wpAny_assign_Name (store_ok I hN hi hx r (fun s' I' => ⟨_, H, I', h⟩) hf)
def gNil : TGs := fun vs σ H Q => vs = [] ∧ Q σ H
def gCons (t : TG) (u : TGs) : TGs := fun vs σ H Q => ∃ v r, vs = v :: r ∧ t v σ H fun σ' H' => u r σ' H' Q
theorem pgs_nil : PGs X [] gNil := by
 intro pins s σ H vs us Q I r h
 obtain ⟨e, h⟩ := h
 subst e
 cases r
 exact assignInOrder_nil ⟨σ, H, I, h⟩
theorem pgs_cons {e : Expr} {es : List Expr} {t : TG} {u : TGs} (h1 : PG X e t) (h2 : PGs X es u)
   (hs : (assignEach (e :: es) X.env).map (·.2) = assign e X.env :: (assignEach es X.env).map (·.2) := by rfl) : PGs X (e :: es) (gCons t u) := by
 intro pins s σ H vs us Q I r h
 obtain ⟨v, vr, e1, h⟩ := h
 subst e1
 cases r with
 | cons r rr =>
   rw [hs]
   refine assignInOrder_cons (thn (h1 pins s σ H _ _ _ I r h) fun _ s1 ⟨σ1, H1, I1, q1⟩ => ?_)
   exact h2 pins s1 σ1 H1 _ _ Q I1 rr q1
def gTup (K : PySem.W.Frag) (n : Nat) (t : TGs) : TG := fun v σ H Q => ∃ a xs, v = .ref a ∧ SqT K H a xs ∧ xs.length = n ∧ t xs σ H Q
theorem pg_tup {es : List Expr} {k : Nat} {t : TGs} {n : Nat} (hc : X.calm = true) (h : PGs X es t)
   (hn : (assignEach es X.env).length = n := by rfl) (hst : (assignEach es X.env).findIdx? (·.1) = none := by rfl) : PG X (.Tuple es k pos) (gTup X.K n t) := by
 intro pins s σ H v u Q I r hw
 obtain ⟨a, xs, e1, hq, hl, hw⟩ := hw
 subst e1
 cases r
 obtain ⟨its, rv, ht, hz⟩ := I.tuple hq
 refine assign_Tuple_tuple (I.ok.hd hc) ht (by simp [hn, ← hl, rv.length]) hst fun h' hx => ?_
 have I1 : Inv X pins σ H { s with heap := h' } := I.kept (t' := s.toks) fun b o e => hx b o (Nat.ne_of_lt (Heap.lt_size e)) e
 exact h pins _ σ H xs _ Q I1 (by simpa using rv) hw
def gSub (to ti : TE) (t : TSet) : TG := fun v σ H Q => to σ H fun o H1 => ti σ H1 fun i H2 => t o i v H2 fun H3 => Q σ H3
theorem pg_sub {o i : Expr} {to ti : TE} {t : TSet} (ho : PE X o to) (hi : PE X i ti) (hs : PSet X t)
   (ha : ∀ v, assign (.Subscript o i pos) X.env v = (do
     let ov ← holding [v] (eval o X.env)
     let iv ← holding [v, ov] (eval i X.env)
     standAt pos
     holding [v, ov, iv] (setItem ov iv v)
     release [v, ov, iv] []) := by intro _; rfl) : PG X (.Subscript o i pos) (gSub to ti t) := by
 intro pins s σ H v u Q I r h
 rw [ha]
 refine wpAny_bind (wpAny_holding (thn (ho pins s σ H _ I h) fun ov s1 ⟨x, H1, I1, r1, q1⟩ => ?_))
 refine wpAny_bind (wpAny_holding (thn (hi pins s1 σ H1 _ I1 q1) fun iv s2 ⟨y, H2, I2, r2, q2⟩ => ?_))
 refine wpAny_bind (wpAny_standAt (wpAny_bind (wpAny_holding (thn (hs pins s2 σ H2 x y v ov iv u _ I2 r1 r2 r q2) fun _ s3 ⟨H3, I3, q3⟩ => ?_))))
 exact wpAny_release ⟨σ, H3, I3, q3⟩
def tAsg (te : TE) (g : TG) : TS := fun D σ H => te σ H fun x H1 => g x σ H1 D.nx
theorem ps_asg {tg e : Expr} {te : TE} {g : TG} (he : PE X e te) (hg : PG X tg g) (hs : swapsWithSole [tg] e pos.line X.env = pure false := by rfl) (hw : swappedStores [tg] e X.env = pure none := by rfl)
   (h1 : (assignEach [tg] X.env).map (·.2) = [assign tg X.env] := by rfl) : PS X (.Assign [tg] e pos) (tAsg te g) := by
 intro pins s σ H D I h
 refine wpAny_Assign_stores (thn (he pins s σ H _ I h) fun v s1 ⟨x, H1, I1, r1, q1⟩ => ?_) hs hw
 rw [h1]
 exact thn (hg pins s1 σ H1 x v _ I1 r1 q1) fun _ s2 q => q
theorem ps_set {i : Nat} {x : Str} {e : Expr} {te : TE} {pos' : Pos} (hN : X.N.Nodup) (hi : X.N[i]? = some x) (hx : Loc X.env.scope x) (he : PE X e te) (hs : swapsWith e (some (.Name x pos')) pos.line X.env = pure false := by rfl) (hf : X.fn x = true ∨ X.env.scope.names.lookup x = some .local := by first | exact .inl rfl | exact .inr rfl | assumption) :
   PS X (.Assign [.Name x pos'] e pos) (tAsg te (gName i)) := by
 intro pins s σ H D I h
 refine wpAny_Assign_Name (thn (he pins s σ H _ I h) fun v s1 ⟨y, H1, I1, r1, q1⟩ => ?_) hs
 exact store_ok I1 hN hi hx r1 (fun s2 I2 => ⟨_, H1, I2, q1⟩) hf
def tAug (i : Nat) (te : TE) (ti : TIp) : TS := fun D σ H => ∃ x, σ[i]? = some (some x) ∧ te σ H fun y H1 => ti x y H1 fun z H2 => D.nx (σ.set i (some z)) H2
theorem ps_aug {i : Nat} {x : Str} {e : Expr} {te : TE} {op : Operator} {ti : TIp} {pos' : Pos} (hN : X.N.Nodup) (hi : X.N[i]? = some x) (hx : Loc X.env.scope x) (he : PE X e te) (ho : PIp X op ti) (hf : X.fn x = true ∨ X.env.scope.names.lookup x = some .local := by first | exact .inl rfl | exact .inr rfl | assumption) :
   PS X (.AugAssign (.Name x pos') op e pos) (tAug i te ti) := by
 intro pins s σ H D I h
 obtain ⟨v, e1, h⟩ := h
 obtain ⟨m, hn, hl⟩ := I.loc
 have vis : Vis X.env.scope x := by rcases hx with k | k; exact .inl k; exact .inr (.inl k)
 obtain ⟨u, r, l⟩ := hl i x v hi e1 vis
 refine wpAny_AugAssign_Name ?_
 have go : wpAny (model X.prog X.w) X.A (eval e X.env) (fun w s₂ => wpAny (model X.prog X.w) X.A (inplaceOp op u w) (fun r s₃ => wpAny (model X.prog X.w) X.A (storeName X.env x r) (fun _ => SP X pins D .next) X.xe s₃) X.xe s₂) X.xe s := by
   refine thn (he pins s σ H _ I h) fun w s1 ⟨y, H1, I1, r1, q1⟩ => ?_
   refine thn (ho pins s1 σ H1 v y u w _ I1 r r1 q1) fun z s2 ⟨zv, H2, I2, r2, q2⟩ => ?_
   exact store_ok I2 hN hi hx r2 (fun s3 I3 => ⟨_, H2, I3, q2⟩) hf
 rcases l with ⟨hk, hm⟩ | ⟨hk, c, hc, hcell⟩
 · exact wpAny_loadName_local I.ok.kind hk hn hm go
 · rcases hk with hk | hk
   · exact wpAny_loadName_cell I.ok.kind hk hc hcell go
   · rcases hx with k | k
     · have : X.env.scope.names.lookup x = some .free := hk
       rw [k] at this; cases this
     · have : X.env.scope.names.lookup x = some .free := hk
       rw [k] at this; cases this
def ipI (f : Int → Int → Int) : TIp := fun x y H Q => ∃ i j, x = .int i ∧ y = .int j ∧ Q (.int (f i j)) H
theorem ip_add : PIp X .Add (ipI fun i j => i + j) := by
 intro pins s σ H x y v u Q I r1 r2 h
 obtain ⟨i, j, e1, e2, q⟩ := h
 subst e1; subst e2
 obtain ⟨t, rfl⟩ := r1
 obtain ⟨t', rfl⟩ := r2
 exact iadd_int ⟨.int _, H, I.tok _, ⟨_, rfl⟩, q⟩
end
section
variable {X : Cx} {pos : Pos}
def tWhile (c : TT) (tb : TS) : TS := fun D σ H => ∃ W : Nat → St → Hp → Prop, (∃ m, W m σ H) ∧ ∀ m σ H, W m σ H →
 c σ H fun b H1 => if b = true then ∃ N : St → Hp → Prop, (∀ σ' H', N σ' H' → ∃ m', m' < m ∧ W m' σ' H') ∧ tb { D with nx := N, ct := N, bk := D.nx } σ H1 else D.nx σ H1
theorem ps_while {c : Expr} {body : List Stmt} {tc : TT} {tb : TS} (hp : PassesOwn (model X.prog X.w) X.A X.env X.xe) (hc : PT X c tc) (hb : PSs X body tb) : PS X (.While c body [] pos) (tWhile tc tb) := by
 intro pins s σ H D I h
 obtain ⟨W, ⟨m0, w0⟩, turn⟩ := h
 refine wpAny_While (codeAny_whileLoop (fun n s' => ∃ σ' H', Inv X pins σ' H' s' ∧ W n σ' H') ?_ m0 ⟨σ, H, I, w0⟩)
 rintro n s1 ⟨σ1, H1, I1, w1⟩
 refine wpAny_passesOwn hp (thn (hc pins s1 σ1 H1 _ I1 (turn n σ1 H1 w1)) fun b s2 ⟨H2, I2, q2⟩ => ?_)
 cases b with
 | true =>
   obtain ⟨N, hN, q2⟩ := q2
   rw [if_pos rfl]
   refine wpAny_passesOwn hp (thn (hb pins s2 σ1 H2 _ I2 q2) fun f s3 q3 => ?_)
   cases f with
   | next =>
     obtain ⟨σ3, H3, I3, n3⟩ := q3
     obtain ⟨m', hm, w3⟩ := hN σ3 H3 n3
     exact ⟨m', hm, σ3, H3, I3, w3⟩
   | cont =>
     obtain ⟨σ3, H3, I3, n3⟩ := q3
     obtain ⟨m', hm, w3⟩ := hN σ3 H3 n3
     exact ⟨m', hm, σ3, H3, I3, w3⟩
   | brk => exact q3
   | ret v => exact q3
 | false =>
   rw [if_neg Bool.false_ne_true]
   exact wpAny_execs_nil ⟨σ1, H2, I2, q2⟩
end
structure It where
 go : Nat → Hp → Prop
 yld : Nat → Hp → V → Hp → Prop
 stop : Nat → Hp → Prop
def FpOk (X : Cx) (pins : List (Addr × Obj)) (H : Hp) (b : Addr) : Prop :=
 H b = none ∧ b ≠ X.env.locals ∧ b ∉ X.fs ∧ (b ∈ X.ex ∨ X.s_0.heap.objs.size ≤ b) ∧ (∀ x c, X.env.cells.lookup x = some c → c ≠ b) ∧ ∀ p ∈ X.pn ++ pins, p.1 ≠ b
theorem Inv.fpOk {X : Cx} {pins : List (Addr × Obj)} {σ : St} {H H' : Hp} {s : Shared} {b : Addr} (I : Inv X pins σ H s) (hb : s.heap.objs.size ≤ b) (hn : H' b = none) : FpOk X pins H' b := by
 refine ⟨hn, Nat.ne_of_gt (Nat.lt_of_lt_of_le I.lt hb), I.nofs hb, .inr (Nat.le_trans I.sz hb), fun x c e z => ?_, fun p hp z => ?_⟩
 · obtain ⟨v, q⟩ := I.cell x c e
   exact absurd (Nat.lt_of_lt_of_le q.lt (by rw [z]; exact hb)) (Nat.lt_irrefl _)
 · exact absurd (Nat.lt_of_lt_of_le (Heap.lt_size (I.pin p hp).1) (by rw [z]; exact hb)) (Nat.lt_irrefl _)
structure Turn (P : Program) (w : World) (K : PySem.W.Frag) (tg : Expr) (J : It) (fp : List Addr) (it : Addr) (tn : Nat → Heap → Prop) : Prop where
 mem : it ∈ fp
 obj : ∀ i h, tn i h → ∀ b ∈ fp, ∃ o, h.get? b = some o ∧ ∀ v, o.data ≠ .cell v
 keep : ∀ i h h', tn i h → (∀ b ∈ fp, ∀ o, h.get? b = some o → h'.get? b = some o) → tn i h'
 item : ∀ (X : Cx), X.prog = P → X.w = w → X.K = K → X.calm = true → ∀ (i : Nat) (pins : List (Addr × Obj)) (s : Shared) (σ : St) (H : Hp) (E : Value → Shared → Prop), Inv X pins σ H s → (∀ b ∈ fp, FpOk X pins H b) → tn i s.heap → J.go i H →
   wpAny (model P w) X.A (pyNext (.ref it)) (fun r s1 => ∃ u, r = some u ∧
     wpAny (model P w) X.A (letOwnedTupleGo tg (.ref it) u) (fun _ s2 => ∃ x H', Inv X pins σ H' s2 ∧ RelV x u ∧ J.yld i H x H' ∧ tn (i + 1) s2.heap ∧ ∀ b ∈ fp, H' b = none) E s1) E s
 done : ∀ (X : Cx), X.prog = P → X.w = w → X.K = K → X.calm = true → ∀ (i : Nat) (pins : List (Addr × Obj)) (s : Shared) (σ : St) (H : Hp) (E : Value → Shared → Prop), Inv X pins σ H s → (∀ b ∈ fp, FpOk X pins H b) → tn i s.heap → J.stop i H →
   wpAny (model P w) X.A (pyNext (.ref it)) (fun r s1 => r = none ∧ Inv X pins σ H s1) E s
 self : ∀ (A : Around) (i : Nat) (s : Shared) (Q : Value → Shared → Prop) (E : Value → Shared → Prop), tn i s.heap → Q (.ref it) s → wpAny (model P w) A (pyIter (.ref it)) Q E s
abbrev TI := St → Hp → (It → Hp → Prop) → Prop
def PIE (X : Cx) (pins : List (Addr × Obj)) (σ : St) (tg : Expr) (R : It → Hp → Prop) (itv : Value) (s2 : Shared) : Prop :=
 ∃ (it : Addr) (fp : List Addr) (tn : Nat → Heap → Prop) (J : It) (H' : Hp), itv = .ref it ∧ Inv X pins σ H' s2 ∧ Turn X.prog X.w X.K tg J fp it tn ∧ tn 0 s2.heap ∧ (∀ b ∈ fp, FpOk X pins H' b) ∧ R J H'
def PI (X : Cx) (tg iter : Expr) (wi : TI) : Prop :=
 ∀ (pins : List (Addr × Obj)) (s : Shared) (σ : St) (H : Hp) (R : It → Hp → Prop), Inv X pins σ H s → wi σ H R →
   wpAny (model X.prog X.w) X.A (eval iter X.env) (fun v s1 => wpAny (model X.prog X.w) X.A (pyIter v) (PIE X pins σ tg R) X.xe s1) X.xe s
theorem go_of {M : Model} {A : Around} {E : Value → Shared → Prop} {s : Shared} {tg : Expr} {it : Addr} {u : Value} {o : Obj} {n : String} {vs : Array Value} {Q : Unit → Shared → Prop} (ho : s.heap.get? it = some o) (hc : o.cls = .type n) (hd : o.data = .fields vs)
   (hn : ["enumerate", "zip", "dict_itemiterator", "dict_reverseitemiterator", "odict_iterator", "itertools.zip_longest", "itertools.pairwise"].contains n = false) (hQ : Q () s) : wpAny M A (letOwnedTupleGo tg (.ref it) u) Q E s := by
 unfold letOwnedTupleGo
 cases tg <;> first
   | exact wpAny_pure hQ
   | (cases u <;> first
       | exact wpAny_pure hQ
       | (refine wpAny_bind (wpAny_load ho ?_)
          rw [hc, hd]
          show wpAny M A (if (["enumerate", "zip", "dict_itemiterator", "dict_reverseitemiterator", "odict_iterator", "itertools.zip_longest", "itertools.pairwise"].contains n && vs[0]? == some (rawInt _)) = true then _ else _) Q E s
          rw [if_neg (by intro h; rw [hn, Bool.false_and] at h; cases h)]
          exact wpAny_pure hQ))
def Itl (K : PySem.W.Frag) (a : Addr) : It :=
 ⟨fun i H => ∃ xs x, SqL K H a xs ∧ xs[i]? = some x, fun i H x H' => H' = H ∧ ∀ xs, SqL K H a xs → xs[i]? = some x, fun i H => ∃ xs, SqL K H a xs ∧ xs.length ≤ i⟩
def Itt (K : PySem.W.Frag) (a : Addr) : It :=
 ⟨fun i H => ∃ xs x, SqT K H a xs ∧ xs[i]? = some x, fun i H x H' => H' = H ∧ ∀ xs, SqT K H a xs → xs[i]? = some x, fun i H => ∃ xs, SqT K H a xs ∧ xs.length ≤ i⟩
def Itr (lo : Int) (n : Nat) : It := ⟨fun i _ => i < n, fun i H x H' => H' = H ∧ x = .int (lo + i), fun i _ => n ≤ i⟩
theorem turn_list {P : Program} {w : World} {K : PySem.W.Frag} {tg : Expr} (a it : Addr) : Turn P w K tg (Itl K a) [it] it (fun i h => h.IsListIter it a i) where
 mem := by simp
 obj := fun i h st b hb => by
   have e : b = it := by simpa using hb
   subst e
   obtain ⟨o, e, c, d⟩ := st
   exact ⟨o, e, fun v z => by rw [d] at z; cases z⟩
 keep := fun i h h' st k => st.at fun o e => k it (by simp) o e
 item := by
   intro X hP hw hK hc i pins s σ H E I hf st hg
   subst hP hw hK
   obtain ⟨xs, x, hq, hx⟩ := hg
   obtain ⟨its, rv, p, hz⟩ := I.list hq
   obtain ⟨u, hu, ru⟩ := rv.get hx
   obtain ⟨f0, f1, f2, f3, f4, f5⟩ := hf it (by simp)
   refine wpAny_pyNext_list_item st p.isList (x := u) (by simpa using hu) fun h' st' sb => ?_
   have I1 : Inv X pins σ H { s with heap := h' } := I.turned (t' := s.toks) (fun b o hb e => (sb.2 b hb).trans e) f0 f1 f3 f4 f5
   obtain ⟨o, e, c, d⟩ := id st'
   exact ⟨u, rfl, go_of (s := { s with heap := h' }) e c d (by decide) ⟨x, H, I1, ru, ⟨rfl, fun ys hy => by rw [I.list_inj hy hq]; exact hx⟩, st', fun b hb => (hf b hb).1⟩⟩
 done := by
   intro X hP hw hK hc i pins s σ H E I hf st hg
   subst hP hw hK
   obtain ⟨xs, hq, hx⟩ := hg
   obtain ⟨its, rv, p, hz⟩ := I.list hq
   obtain ⟨f0, f1, f2, f3, f4, f5⟩ := hf it (by simp)
   have hl := rv.length
   exact wpAny_pyNext_list_end (I.ok.hd hc) st p.isList (by simp; omega) fun h' eb => ⟨rfl, I.turned (t' := s.toks) (fun b o hb e => eb b o hb e) f0 f1 f3 f4 f5⟩
 self := fun _ _ _ _ _ st h => wpAny_pyIter_listiter st h
theorem turn_tuple {P : Program} {w : World} {K : PySem.W.Frag} {tg : Expr} (a it : Addr) : Turn P w K tg (Itt K a) [it] it (fun i h => h.IsTupleIter it a i) where
 mem := by simp
 obj := fun i h st b hb => by
   have e : b = it := by simpa using hb
   subst e
   obtain ⟨o, e, c, d⟩ := st
   exact ⟨o, e, fun v z => by rw [d] at z; cases z⟩
 keep := fun i h h' st k => st.at fun o e => k it (by simp) o e
 item := by
   intro X hP hw hK hc i pins s σ H E I hf st hg
   subst hP hw hK
   obtain ⟨xs, x, hq, hx⟩ := hg
   obtain ⟨its, rv, p, hz⟩ := I.tuple hq
   obtain ⟨u, hu, ru⟩ := rv.get hx
   obtain ⟨f0, f1, f2, f3, f4, f5⟩ := hf it (by simp)
   refine wpAny_pyNext_tuple_item st (show s.heap.IsTuple a its.toArray from p) (x := u) (by simpa using hu) fun h' st' sb => ?_
   have I1 : Inv X pins σ H { s with heap := h' } := I.turned (t' := s.toks) (fun b o hb e => (sb.2 b hb).trans e) f0 f1 f3 f4 f5
   obtain ⟨o, e, c, d⟩ := id st'
   exact ⟨u, rfl, go_of (s := { s with heap := h' }) e c d (by decide) ⟨x, H, I1, ru, ⟨rfl, fun ys hy => by rw [I.tuple_inj hy hq]; exact hx⟩, st', fun b hb => (hf b hb).1⟩⟩
 done := by
   intro X hP hw hK hc i pins s σ H E I hf st hg
   subst hP hw hK
   obtain ⟨xs, hq, hx⟩ := hg
   obtain ⟨its, rv, p, hz⟩ := I.tuple hq
   obtain ⟨f0, f1, f2, f3, f4, f5⟩ := hf it (by simp)
   have hl := rv.length
   exact wpAny_pyNext_tuple_end (I.ok.hd hc) st (show s.heap.IsTuple a its.toArray from p) (by simp; omega) fun h' eb => ⟨rfl, I.turned (t' := s.toks) (fun b o hb e => eb b o hb e) f0 f1 f3 f4 f5⟩
 self := fun _ _ _ _ _ st h => wpAny_pyIter_tupleiter st h
theorem turn_range {P : Program} {w : World} {K : PySem.W.Frag} {tg : Expr} (it : Addr) (lo : Int) (n : Nat) : Turn P w K tg (Itr lo n) [it] it (fun i h => IsRangeIter h it (lo + (i : Nat) * 1) ((n : Int) - (i : Nat)) 1) where
 mem := by simp
 obj := fun i h st b hb => by
   have e : b = it := by simpa using hb
   subst e
   exact ⟨_, st, fun v z => by
     have z' : Data.fields _ = Data.cell v := z
     cases z'⟩
 keep := fun i h h' st k => k it (by simp) _ st
 item := by
   intro X hP hw hK hc i pins s σ H E I hf st hg
   subst hP hw hK
   obtain ⟨f0, f1, f2, f3, f4, f5⟩ := hf it (by simp)
   have W := Walks.range (prog := X.prog) (w := X.w) (I.ok.hd hc) it lo 1 n
   refine W.item i s _ _ hg st fun v h' tk hv st' kk => ?_
   obtain ⟨t, rfl⟩ := hv
   have I1 : Inv X pins σ H { s with heap := h', toks := tk } := I.turned (fun b o hb e => kk b o (by simpa using hb) e) f0 f1 f3 f4 f5
   refine ⟨_, rfl, go_of (s := { s with heap := h', toks := tk }) (n := "range_iterator") st' rfl rfl (by decide) ⟨.int (lo + i), H, I1, ⟨t, ?_⟩, ⟨rfl, rfl⟩, st', fun b hb => (hf b hb).1⟩⟩
   rw [Int.mul_one]
 done := by
   intro X hP hw hK hc i pins s σ H E I hf st hg
   subst hP hw hK
   obtain ⟨f0, f1, f2, f3, f4, f5⟩ := hf it (by simp)
   exact wpAny_pyNext_range_end (I.ok.hd hc) st (by have : n ≤ i := hg; omega) fun h' eb => ⟨rfl, I.turned (t' := s.toks) (fun b o hb e => eb b o hb e) f0 f1 f3 f4 f5⟩
 self := fun _ _ _ _ _ st h => wpAny_pyIter_rangeiter st h
end L2
namespace L2
open PySem PySem.Spec PyProof.Rows
section
variable {X : Cx} {tg : Expr}
def iList (K : PySem.W.Frag) (tl : TE) : TI := fun σ H R => tl σ H fun x H1 => ∃ a, x = .ref a ∧ (∃ xs, SqL K H1 a xs) ∧ R (Itl K a) H1
def iTup (K : PySem.W.Frag) (tl : TE) : TI := fun σ H R => tl σ H fun x H1 => ∃ a, x = .ref a ∧ (∃ xs, SqT K H1 a xs) ∧ R (Itt K a) H1
theorem pi_list {l : Expr} {tl : TE} (hl : PE X l tl) : PI X tg l (iList X.K tl) := by
 intro pins s σ H R I h
 refine thn (hl pins s σ H _ I h) fun v s1 ⟨x, H1, I1, r1, q1⟩ => ?_
 obtain ⟨a, e, ⟨xs, hq⟩, q⟩ := q1
 subst e
 cases r1
 obtain ⟨its, rv, p, hz⟩ := I1.list hq
 refine wpAny_pyIter_list p.isList ?_
 refine ⟨s1.heap.objs.size, [s1.heap.objs.size], _, _, H1, rfl, I1.kept (t' := s1.toks) fun b o e => Heap.get?_push_of_some _ e, turn_list a _, ⟨_, Heap.get?_push_size _ rfl, rfl, rfl⟩, fun b hb => ?_, q⟩
 have e : b = s1.heap.objs.size := by simpa using hb
 subst e
 exact I1.fpOk (Nat.le_refl _) (I1.hok.fresh (Nat.le_refl _))
theorem pi_tup {l : Expr} {tl : TE} (hl : PE X l tl) : PI X tg l (iTup X.K tl) := by
 intro pins s σ H R I h
 refine thn (hl pins s σ H _ I h) fun v s1 ⟨x, H1, I1, r1, q1⟩ => ?_
 obtain ⟨a, e, ⟨xs, hq⟩, q⟩ := q1
 subst e
 cases r1
 obtain ⟨its, rv, p, hz⟩ := I1.tuple hq
 refine wpAny_pyIter_tuple (show s1.heap.IsTuple a its.toArray from p) ?_
 refine ⟨s1.heap.objs.size, [s1.heap.objs.size], _, _, H1, rfl, I1.kept (t' := s1.toks) fun b o e => Heap.get?_push_of_some _ e, turn_tuple a _, ⟨_, Heap.get?_push_size _ rfl, rfl, rfl⟩, fun b hb => ?_, q⟩
 have e : b = s1.heap.objs.size := by simpa using hb
 subst e
 exact I1.fpOk (Nat.le_refl _) (I1.hok.fresh (Nat.le_refl _))
theorem range_it {pins : List (Addr × Obj)} {σ : St} {H : Hp} {s : Shared} {R : It → Hp → Prop} {E : Value → Shared → Prop} {lo hi : Int} {t u v : Tok} {tk : Nat} (I : Inv X pins σ H s) (h1 : -(2 ^ 62) ≤ lo) (h2 : lo < 2 ^ 62) (h3 : -(2 ^ 62) ≤ hi) (h4 : hi < 2 ^ 62)
   (q : R (Itr lo (hi - lo).toNat) H) : wpAny (model X.prog X.w) X.A (pyIter (.ref s.heap.objs.size)) (PIE X pins σ tg R) E { s with heap := s.heap.push { cls := .type "range", data := .fields #[.int lo t, .int hi u, .int 1 v] }, toks := tk } := by
 refine wpAny_pyIter_range (IsRange.new ..) (small_one h1 h2 h3 h4) ?_
 have I1 : Inv X pins σ H { s with heap := s.heap.push { cls := .type "range", data := .fields #[.int lo t, .int hi u, .int 1 v] }, toks := tk } := I.kept fun b o e => Heap.get?_push_of_some _ e
 refine ⟨(s.heap.push { cls := .type "range", data := .fields #[.int lo t, .int hi u, .int 1 v] }).objs.size, [(s.heap.push { cls := .type "range", data := .fields #[.int lo t, .int hi u, .int 1 v] }).objs.size], _, _, H, rfl,
   I1.kept (t' := tk) fun b o e => Heap.get?_push_of_some _ e, turn_range _ lo (hi - lo).toNat, ?_, fun b hb => ?_, q⟩
 · have e1 : lo + ((0 : Nat) : Int) * 1 = lo := by simp
   have e2 : (((hi - lo).toNat : Nat) : Int) - ((0 : Nat) : Int) = Builtin.Range.rangeSize lo hi 1 := by rw [rangeSize_one]; split <;> omega
   show IsRangeIter _ _ (lo + ((0 : Nat) : Int) * 1) ((((hi - lo).toNat : Nat) : Int) - ((0 : Nat) : Int)) 1
   rw [e1, e2]
   exact Heap.get?_push_size _ rfl
 · have e : b = (s.heap.push { cls := .type "range", data := .fields #[.int lo t, .int hi u, .int 1 v] }).objs.size := by simpa using hb
   subst e
   exact I1.fpOk (Nat.le_refl _) (I1.hok.fresh (Nat.le_refl _))
def iRng1 (ta : TA) : TI := fun σ H R => ta σ H fun vs H1 => ∃ j : Int, vs = [.int j] ∧ -(2 ^ 62) ≤ j ∧ j < 2 ^ 62 ∧ R (Itr 0 j.toNat) H1
def iRng2 (ta : TA) : TI := fun σ H R => ta σ H fun vs H1 => ∃ i j : Int, vs = [.int i, .int j] ∧ (-(2 ^ 62) ≤ i ∧ i < 2 ^ 62 ∧ -(2 ^ 62) ≤ j ∧ j < 2 ^ 62) ∧ R (Itr i (j - i).toNat) H1
theorem pi_range1 {a : Expr} {ta : TA} {p pos : Pos} (hg : Gl X "range") (hm : X.mg "range" = none) (ha : PA X [a] ta) (hs : starEach [a] X.env = [(false, eval a X.env)] := by rfl) : PI X tg (.Call (.Name "range" p) [a] [] pos) (iRng1 ta) := by
 intro pins s σ H R I h
 refine Call_ (ld_blt I hg hm boot_range (PyProof.Rows.callWith_type1 (thn (ha pos pins s σ H _ I h) fun us s1 ⟨vs, H1, I1, r1, q1⟩ => ?_) hs rfl))
 obtain ⟨j, e, q1, q2, q⟩ := q1
 subst e
 cases r1 with
 | cons r rr =>
   cases rr
   obtain ⟨t, rfl⟩ := r
   exact call_range_1 (range_it I1 (by omega) (by omega) q1 q2 (by simpa using q))
theorem pi_range2 {a b : Expr} {ta : TA} {p pos : Pos} (hg : Gl X "range") (hm : X.mg "range" = none) (ha : PA X [a, b] ta) (hs : starEach [a, b] X.env = [(false, eval a X.env), (false, eval b X.env)] := by rfl) (hs2 : starEach [b] X.env = [(false, eval b X.env)] := by rfl) :
   PI X tg (.Call (.Name "range" p) [a, b] [] pos) (iRng2 ta) := by
 intro pins s σ H R I h
 refine Call_ (ld_blt I hg hm boot_range (PyProof.Rows.callWith_type1 (thn (ha pos pins s σ H _ I h) fun us s1 ⟨vs, H1, I1, r1, q1⟩ => ?_) (by rw [hs, hs2]) (by rw [hs2]; rfl)))
 obtain ⟨i, j, e, ⟨q1, q2, q3, q4⟩, q⟩ := q1
 subst e
 cases r1 with
 | cons r rr =>
   cases rr with
   | cons r' rr =>
     cases rr
     obtain ⟨t, rfl⟩ := r
     obtain ⟨t', rfl⟩ := r'
     exact call_range_2 (range_it I1 q1 q2 q3 q4 q)
def tFor (wi : TI) (g : TG) (tb : TS) : TS := fun D σ H => wi σ H fun J H1 => ∃ W : Nat → Nat → St → Hp → Prop, (∃ m, W 0 m σ H1) ∧ ∀ i m σ H, W i m σ H →
 (J.stop i H ∧ D.nx σ H) ∨ (J.go i H ∧ ∃ N : St → Hp → Prop, (∀ σ' H', N σ' H' → ∃ m', m' < m ∧ W (i + 1) m' σ' H') ∧ ∀ x H', J.yld i H x H' → g x σ H' fun σ2 H2 => tb { D with nx := N, ct := N, bk := D.nx } σ2 H2)
def pinsAt (fp : List Addr) (h : Heap) : List (Addr × Obj) := fp.filterMap fun b => (h.get? b).map fun o => (b, o)
theorem mem_pinsAt {fp : List Addr} {h : Heap} {b : Addr} {o : Obj} (hb : b ∈ fp) (e : h.get? b = some o) : (b, o) ∈ pinsAt fp h := List.mem_filterMap.mpr ⟨b, hb, by rw [e]; rfl⟩
theorem of_pinsAt {fp : List Addr} {h : Heap} {p : Addr × Obj} (hp : p ∈ pinsAt fp h) : p.1 ∈ fp ∧ h.get? p.1 = some p.2 := by
 obtain ⟨b, hb, e⟩ := List.mem_filterMap.mp hp
 cases q : h.get? b with
 | none => rw [q] at e; cases e
 | some o =>
   rw [q] at e
   have e' : (b, o) = p := Option.some.inj e
   subst e'
   exact ⟨hb, q⟩
theorem Inv.pinned {pins : List (Addr × Obj)} {σ : St} {H : Hp} {s : Shared} {fp : List Addr} (I : Inv X pins σ H s) (hf : ∀ b ∈ fp, FpOk X pins H b) (ho : ∀ b ∈ fp, ∃ o, s.heap.get? b = some o ∧ ∀ v, o.data ≠ .cell v) : Inv X (pins ++ pinsAt fp s.heap) σ H s :=
 I.pins_of fun p hp => (List.mem_append.mp hp).elim (fun z => I.pin p (List.mem_append_right _ z)) fun z => by
   obtain ⟨hb, e⟩ := of_pinsAt z
   obtain ⟨f0, f1, f2, _⟩ := hf p.1 hb
   obtain ⟨o, e', d⟩ := ho p.1 hb
   rw [e] at e'; cases e'
   exact ⟨e, f0, f1, f2, d⟩
theorem Inv.unpinned {pins pl : List (Addr × Obj)} {σ : St} {H : Hp} {s : Shared} (I : Inv X (pins ++ pl) σ H s) : Inv X pins σ H s := I.pins_of fun p hp => I.pin p (List.mem_append_right _ (List.mem_append_left _ hp))
theorem ps_for {iter : Expr} {body : List Stmt} {wi : TI} {g : TG} {tb : TS} {pos : Pos} (hp : PassesOwn (model X.prog X.w) X.A X.env X.xe) (hc : X.calm = true) (hi : PI X tg iter wi) (hg : PG X tg g) (hb : PSs X body tb)
   (hs : ∀ x, foldedSetIterable iter X.env x = pure x := by intro _; rfl) : PS X (.For tg iter body [] pos) (tFor wi g tb) := by
 intro pins s σ H D I h
 refine wpAny_For (thn (hi pins s σ H _ I h) fun v s1 h1 => thn h1 fun itv s2 h2 => ?_) hs
 obtain ⟨it, fp, tn, J, H2, e, I2, T, st2, f2, W, ⟨m0, w0⟩, turn⟩ := h2
 subst e
 -- what stays true of the iterator's objects through the loop
 have stat : ∀ {H' : Hp}, (∀ b ∈ fp, H' b = none) → ∀ b ∈ fp, FpOk X pins H' b := fun hn b hb => ⟨hn b hb, (f2 b hb).2⟩
 refine codeAny_forLoop_any (fun n s' => ∃ i σ' H', Inv X pins σ' H' s' ∧ tn i s'.heap ∧ (∀ b ∈ fp, H' b = none) ∧ W i n σ' H') ?_ m0 ⟨0, σ, H2, I2, st2, fun b hb => (f2 b hb).1, w0⟩
 rintro n s3 ⟨i, σ3, H3, I3, st3, fr3, w3⟩
 rcases turn i n σ3 H3 w3 with ⟨stop, qn⟩ | ⟨go, N, hN, step⟩
 · refine wpAny_passesOwn hp (thn (T.done X rfl rfl rfl hc i pins s3 σ3 H3 X.xe I3 (stat fr3) st3 stop) fun r s4 ⟨hr, I4⟩ => ?_)
   subst hr
   exact wpAny_execs_nil ⟨σ3, H3, I4, qn⟩
 · refine wpAny_passesOwn hp (thn (T.item X rfl rfl rfl hc i pins s3 σ3 H3 X.xe I3 (stat fr3) st3 go) fun r s4 ⟨u, hr, h4⟩ => ?_)
   subst hr
   refine wpAny_passesOwn hp (thn h4 fun _ s5 ⟨x, H5, I5, r5, y5, st5, fr5⟩ => ?_)
   have I5' := I5.pinned (stat fr5) (T.obj _ _ st5)
   refine wpAny_passesOwn hp (thn (hg _ s5 σ3 H5 x u _ I5' r5 (step x H5 y5)) fun _ s6 ⟨σ6, H6, I6, q6⟩ => ?_)
   refine wpAny_passesOwn hp (thn (hb _ s6 σ6 H6 _ I6 q6) fun f s7 q7 => ?_)
   have again : ∀ {σ7 : St} {H7 : Hp}, Inv X (pins ++ pinsAt fp s5.heap) σ7 H7 s7 → N σ7 H7 → ∃ m, m < n ∧ ∃ i σ' H', Inv X pins σ' H' s7 ∧ tn i s7.heap ∧ (∀ b ∈ fp, H' b = none) ∧ W i m σ' H' := fun {σ7 H7} I7 n7 => by
     obtain ⟨m', hm, w7⟩ := hN σ7 H7 n7
     refine ⟨m', hm, i + 1, σ7, H7, I7.unpinned, T.keep _ _ _ st5 fun b hb o e => (I7.pin (b, o) (List.mem_append_right _ (List.mem_append_right _ (mem_pinsAt hb e)))).1, fun b hb => ?_, w7⟩
     obtain ⟨o, e, d⟩ := T.obj _ _ st5 b hb
     exact (I7.pin (b, o) (List.mem_append_right _ (List.mem_append_right _ (mem_pinsAt hb e)))).2.1
   cases f with
   | next => obtain ⟨σ7, H7, I7, n7⟩ := q7; exact again I7 n7
   | cont => obtain ⟨σ7, H7, I7, n7⟩ := q7; exact again I7 n7
   | brk => obtain ⟨σ7, H7, I7, q7⟩ := q7; exact ⟨σ7, H7, I7.unpinned, q7⟩
   | ret v => obtain ⟨x7, σ7, H7, I7, r7, q7⟩ := q7; exact ⟨x7, σ7, H7, I7.unpinned, r7, q7⟩
end
theorem for_list {K : PySem.W.Frag} {a : Addr} {xs : List V} {g : TG} {tb : TS} {D : Ends} {σ : St} {H : Hp} (Pv : Nat → St → Hp → Prop) (h0 : Pv 0 σ H) (hl : ∀ i σ H, i ≤ xs.length → Pv i σ H → SqL K H a xs)
   (hs : ∀ i x σ H, xs[i]? = some x → Pv i σ H → g x σ H fun σ2 H2 => tb { D with nx := Pv (i + 1), ct := Pv (i + 1), bk := D.nx } σ2 H2) (hd : ∀ σ H, Pv xs.length σ H → D.nx σ H) :
   ∃ W : Nat → Nat → St → Hp → Prop, (∃ m, W 0 m σ H) ∧ ∀ i m σ H, W i m σ H →
     ((Itl K a).stop i H ∧ D.nx σ H) ∨ ((Itl K a).go i H ∧ ∃ N : St → Hp → Prop, (∀ σ' H', N σ' H' → ∃ m', m' < m ∧ W (i + 1) m' σ' H') ∧ ∀ x H', (Itl K a).yld i H x H' → g x σ H' fun σ2 H2 => tb { D with nx := N, ct := N, bk := D.nx } σ2 H2) := by
 refine ⟨fun i m σ H => m = xs.length - i ∧ i ≤ xs.length ∧ Pv i σ H, ⟨xs.length, by simp, Nat.zero_le _, h0⟩, ?_⟩
 rintro i m σ H ⟨rfl, hi, p⟩
 have q := hl i σ H hi p
 by_cases hlt : i < xs.length
 · refine .inr ⟨⟨xs, xs[i], q, by simp [hlt]⟩, Pv (i + 1), fun σ' H' p' => ⟨xs.length - (i + 1), by omega, rfl, hlt, p'⟩, fun x H' y => ?_⟩
   obtain ⟨e, y⟩ := y
   subst e
   exact hs i x σ _ (y xs q) p
 · have e : i = xs.length := by omega
   subst e
   exact .inl ⟨⟨xs, q, Nat.le_refl _⟩, hd σ H p⟩
theorem for_range {lo : Int} {n : Nat} {g : TG} {tb : TS} {D : Ends} {σ : St} {H : Hp} (Pv : Nat → St → Hp → Prop) (h0 : Pv 0 σ H)
   (hs : ∀ i σ H, i < n → Pv i σ H → g (.int (lo + i)) σ H fun σ2 H2 => tb { D with nx := Pv (i + 1), ct := Pv (i + 1), bk := D.nx } σ2 H2) (hd : ∀ σ H, Pv n σ H → D.nx σ H) :
   ∃ W : Nat → Nat → St → Hp → Prop, (∃ m, W 0 m σ H) ∧ ∀ i m σ H, W i m σ H →
     ((Itr lo n).stop i H ∧ D.nx σ H) ∨ ((Itr lo n).go i H ∧ ∃ N : St → Hp → Prop, (∀ σ' H', N σ' H' → ∃ m', m' < m ∧ W (i + 1) m' σ' H') ∧ ∀ x H', (Itr lo n).yld i H x H' → g x σ H' fun σ2 H2 => tb { D with nx := N, ct := N, bk := D.nx } σ2 H2) := by
 refine ⟨fun i m σ H => m = n - i ∧ i ≤ n ∧ Pv i σ H, ⟨n, by simp, Nat.zero_le _, h0⟩, ?_⟩
 rintro i m σ H ⟨rfl, hi, p⟩
 by_cases hlt : i < n
 · refine .inr ⟨hlt, Pv (i + 1), fun σ' H' p' => ⟨n - (i + 1), by omega, rfl, hlt, p'⟩, fun x H' y => ?_⟩
   obtain ⟨e, y⟩ := y
   subst e y
   exact hs i σ _ hlt p
 · have e : i = n := by omega
   subst e
   exact .inl ⟨Nat.le_refl _, hd σ H p⟩
end L2
namespace L2
open PySem PySem.Spec PyProof.Rows
abbrev R2 := V → V → Hp → VK → Prop
def OpR (X : Cx) (f : Value → Value → Sem Value) (r : R2) : Prop :=
 ∀ (pins : List (Addr × Obj)) (s : Shared) (σ : St) (H : Hp) (x y : V) (v u : Value) (Q : VK), Inv X pins σ H s → RelV x v → RelV y u → r x y H Q →
   wpAny (model X.prog X.w) X.A (f v u) (EP X pins σ Q) X.xe s
def UnR (X : Cx) (f : Value → Sem Value) (r : V → Hp → VK → Prop) : Prop :=
 ∀ (pins : List (Addr × Obj)) (s : Shared) (σ : St) (H : Hp) (x : V) (v : Value) (Q : VK), Inv X pins σ H s → RelV x v → r x H Q →
   wpAny (model X.prog X.w) X.A (f v) (EP X pins σ Q) X.xe s
def CallR (X : Cx) (f : Value) (r : List V → Hp → VK → Prop) : Prop :=
 ∀ (pins : List (Addr × Obj)) (s : Shared) (σ : St) (H : Hp) (xs : List V) (us : List Value) (Q : VK), Inv X pins σ H s → Vals xs us → r xs H Q →
   wpAny (model X.prog X.w) X.A (call f us) (EP X pins σ Q) X.xe s
def tOp (r : R2) (ta tb : TE) : TE := fun σ H Q => ta σ H fun x H1 => tb σ H1 fun y H2 => r x y H2 Q
def tUn (r : V → Hp → VK → Prop) (ta : TE) : TE := fun σ H Q => ta σ H fun x H1 => r x H1 Q
def rI (C : Int → Int → Prop) (g : Int → Int → V) : R2 := fun x y H Q => ∃ i j, x = .int i ∧ y = .int j ∧ C i j ∧ Q (g i j) H
def rI0 (g : Int → Int → V) : R2 := fun x y H Q => ∃ i j, x = .int i ∧ y = .int j ∧ Q (g i j) H
def rU (g : Int → V) : V → Hp → VK → Prop := fun x H Q => ∃ i, x = .int i ∧ Q (g i) H
section
variable {X : Cx} {a b c : Expr} {ta tb tc : TE} {pos : Pos}
theorem binT (ha : PE X a ta) (hb : PE X b tb) {pins : List (Addr × Obj)} {s : Shared} {σ : St} {H : Hp} {R : V → V → Hp → Prop} (I : Inv X pins σ H s)
   (h : ta σ H fun x H1 => tb σ H1 fun y H2 => R x y H2) {Q : Value → Shared → Prop} {f : Value → Value → Sem Value}
   (hf : ∀ v u s2 x y H2, Inv X pins σ H2 s2 → RelV x v → RelV y u → R x y H2 → wpAny (model X.prog X.w) X.A (f v u) Q X.xe s2) :
   wpAny (model X.prog X.w) X.A (eval a X.env) (fun v s₁ => wpAny (model X.prog X.w) X.A (eval b X.env) (fun u s₂ => wpAny (model X.prog X.w) X.A (f v u) Q X.xe s₂) X.xe s₁) X.xe s := by
 refine thn (ha pins s σ H _ I h) fun v s1 ⟨x, H1, I1, r1, q1⟩ => ?_
 refine thn (hb pins s1 σ H1 _ I1 q1) fun u s2 ⟨y, H2, I2, r2, q2⟩ => ?_
 exact hf v u s2 x y H2 I2 r1 r2 q2
theorem pe_op {op : Operator} {r : R2} (ho : OpR X (binaryOp op) r) (ha : PE X a ta) (hb : PE X b tb) : PE X (.BinOp a op b pos) (tOp r ta tb) := by
 intro pins s σ H Q I h
 exact wpAny_BinOp (binT ha hb I h fun v u s2 x y H2 I2 rx ry q => ho pins s2 σ H2 x y v u Q I2 rx ry q)
theorem pe_un {op : UnaryOp} {r : V → Hp → VK → Prop} (ho : UnR X (unaryOp op) r) (ha : PE X a ta) : PE X (.UnaryOp op a pos) (tUn r ta) := by
 intro pins s σ H Q I h
 exact UnaryOp_ (thn (ha pins s σ H _ I h) fun v s1 ⟨x, H1, I1, r1, q1⟩ => ho pins s1 σ H1 x v Q I1 r1 q1)
theorem opI {f : Value → Value → Sem Value} {C : Int → Int → Prop} {g : Int → Int → Int}
   (rule : ∀ (i j : Int) (t u : Tok) (s : Shared) (Q : Value → Shared → Prop) (E : Value → Shared → Prop), C i j → Q (.int (g i j) s.toks) { s with toks := s.toks + 1 } → wpAny (model X.prog X.w) X.A (f (.int i t) (.int j u)) Q E s) :
   OpR X f (rI C fun i j => .int (g i j)) := by
 intro pins s σ H x y v u Q I rx ry h
 obtain ⟨i, j, rfl, rfl, hc, q⟩ := h
 obtain ⟨t, rfl⟩ := rx
 obtain ⟨t', rfl⟩ := ry
 exact rule i j t t' s _ _ hc ⟨.int (g i j), H, I.tok _, ⟨_, rfl⟩, q⟩
theorem opI0 {f : Value → Value → Sem Value} {g : Int → Int → Int}
   (rule : ∀ (i j : Int) (t u : Tok) (s : Shared) (Q : Value → Shared → Prop) (E : Value → Shared → Prop), Q (.int (g i j) s.toks) { s with toks := s.toks + 1 } → wpAny (model X.prog X.w) X.A (f (.int i t) (.int j u)) Q E s) :
   OpR X f (rI0 fun i j => .int (g i j)) := by
 intro pins s σ H x y v u Q I rx ry h
 obtain ⟨i, j, rfl, rfl, q⟩ := h
 obtain ⟨t, rfl⟩ := rx
 obtain ⟨t', rfl⟩ := ry
 exact rule i j t t' s _ _ ⟨.int (g i j), H, I.tok _, ⟨_, rfl⟩, q⟩
theorem opB0 {f : Value → Value → Sem Value} {g : Int → Int → Bool}
   (rule : ∀ (i j : Int) (t u : Tok) (s : Shared) (Q : Value → Shared → Prop) (E : Value → Shared → Prop), Q (.bool (g i j)) s → wpAny (model X.prog X.w) X.A (f (.int i t) (.int j u)) Q E s) :
   OpR X f (rI0 fun i j => .bl (g i j)) := by
 intro pins s σ H x y v u Q I rx ry h
 obtain ⟨i, j, rfl, rfl, q⟩ := h
 obtain ⟨t, rfl⟩ := rx
 obtain ⟨t', rfl⟩ := ry
 exact rule i j t t' s _ _ ⟨.bl (g i j), H, I, rfl, q⟩
def CDiv (i j : Int) : Prop := 0 < j ∧ j < 1073741824
def CMul (i j : Int) : Prop := (-(2 ^ 64) < i ∧ i < 2 ^ 64) ∨ (-(2 ^ 64) < j ∧ j < 2 ^ 64)
theorem CMul.ok {i j : Int} (h : CMul i j) : IntMulOk i j := by
 rcases h with ⟨h1, h2⟩ | ⟨h1, h2⟩
 · exact .of_left (intBits_le_64 h1 h2)
 · exact .of_right (intBits_le_64 h1 h2)
theorem two_pow_nn (k : Nat) : (0 : Int) ≤ 2 ^ k := by
 rw [two_pow_cast]
 exact Int.natCast_nonneg _
theorem op_add : OpR X (binaryOp .Add) (rI0 fun i j => .int (i + j)) := opI0 fun _ _ _ _ _ _ _ q => add_int q
theorem op_sub : OpR X (binaryOp .Sub) (rI0 fun i j => .int (i - j)) := opI0 fun _ _ _ _ _ _ _ q => sub_int q
theorem op_mul : OpR X (binaryOp .Mult) (rI CMul fun i j => .int (i * j)) := opI fun _ _ _ _ _ _ _ hc q => mul_int q hc.ok
theorem op_fdiv : OpR X (binaryOp .FloorDiv) (rI CDiv fun i j => .int (i / j)) := opI fun i j _ _ _ _ _ hc q => by
 have h1 : (0 : Int) < j := hc.1
 have h2 : j < 1073741824 := hc.2
 exact floordiv_int (by omega) (by rw [Int.fdiv_eq_ediv_of_nonneg i (by omega)]; exact q) (.inl (PyProof.noPylong_small (by omega)))
theorem op_mod : OpR X (binaryOp .Mod) (rI (fun _ j => 0 < j) fun i j => .int (i % j)) := opI fun i j _ _ _ _ _ hc q => by
 have h1 : (0 : Int) < j := hc
 exact mod_int' (by omega) (by rw [Int.fmod_eq_emod_of_nonneg i (by omega)]; exact q)
theorem op_shr : OpR X (binaryOp .RShift) (rI (fun _ j => 0 ≤ j) fun i j => .int (i / 2 ^ j.toNat)) := opI fun i j _ _ _ _ _ hc q =>
 rshift_int hc (by rw [Int.fdiv_eq_ediv_of_nonneg i (two_pow_nn _)]; exact q)
theorem op_and : OpR X (binaryOp .BitAnd) (rI0 fun i j => .int (Builtin.bitAnd i j)) := opI0 fun _ _ _ _ _ _ _ q => and_int q
theorem op_or : OpR X (binaryOp .BitOr) (rI0 fun i j => .int (Builtin.bitOr i j)) := opI0 fun _ _ _ _ _ _ _ q => or_int q
theorem unI {f : Value → Sem Value} {g : Int → Int}
   (rule : ∀ (i : Int) (t : Tok) (s : Shared) (Q : Value → Shared → Prop) (E : Value → Shared → Prop), Q (.int (g i) s.toks) { s with toks := s.toks + 1 } → wpAny (model X.prog X.w) X.A (f (.int i t)) Q E s) :
   UnR X f (rU fun i => .int (g i)) := by
 intro pins s σ H x v Q I rx h
 obtain ⟨i, rfl, q⟩ := h
 obtain ⟨t, rfl⟩ := rx
 exact rule i t s _ _ ⟨.int (g i), H, I.tok _, ⟨_, rfl⟩, q⟩
theorem un_neg : UnR X (unaryOp .USub) (rU fun i => .int (-i)) := unI fun _ _ _ _ _ q => neg_int q
theorem un_inv : UnR X (unaryOp .Invert) (rU fun i => .int (Builtin.bitNot i)) := unI fun _ _ _ _ _ q => invert_int q
end
def scal : V → V → Bool
 | .non, .non => true | .non, .int _ => true | .int _, .non => true | .non, .bl _ => true | .bl _, .non => true | .non, .str _ => true | .str _, .non => true
 | .int _, .int _ => true | .bl _, .bl _ => true | .str _, .str _ => true | .byt _, .byt _ => true
 | .int _, .str _ => true | .str _, .int _ => true | .bl _, .str _ => true | .str _, .bl _ => true
 | _, _ => false
def rEq : R2 := fun x y H Q => scal x y = true ∧ Q (.bl (decide (x = y))) H
def rNe : R2 := fun x y H Q => scal x y = true ∧ Q (.bl (!decide (x = y))) H
theorem dec_int {i j : Int} : decide (V.int i = V.int j) = (i == j) := by
 rw [Bool.eq_iff_iff]
 simp
theorem dec_bl {i j : Bool} : decide (V.bl i = V.bl j) = (i == j) := by
 rw [Bool.eq_iff_iff]
 simp
theorem dec_str {i j : Str} : decide (V.str i = V.str j) = (i == j) := by
 rw [Bool.eq_iff_iff]
 simp
theorem dec_byt {i j : Array UInt8} : decide (V.byt i = V.byt j) = (i.toList == j.toList) := by
 rw [Bool.eq_iff_iff]
 cases i
 cases j
 simp
section
variable {X : Cx} {a b c : Expr} {ta tb tc : TE} {pos : Pos}
theorem fin_bl {pins : List (Addr × Obj)} {σ : St} {H : Hp} {s : Shared} {Q : VK} {k k' : Bool} (I : Inv X pins σ H s) (q : Q (.bl k) H) (e : k = k') : EP X pins σ Q (.bool k') s := by
 subst e
 exact ⟨.bl k, H, I, rfl, q⟩
theorem op_eq : OpR X (compareOp .Eq) rEq := by
 intro pins s σ H x y v u Q I rx ry h
 obtain ⟨hs, q⟩ := h
 cases x with
 | non =>
   cases rx
   cases y with
   | non => cases ry; exact PySem.EqNone.eq_none_none (fin_bl I q (by simp))
   | bl j => cases ry; exact PySem.EqNone.eq_none_bool (fin_bl I q (by simp))
   | int j => obtain ⟨t', rfl⟩ := ry; exact PySem.EqNone.eq_none_int (fin_bl I q (by simp))
   | str j => obtain ⟨t', rfl⟩ := ry; exact PySem.EqNone.eq_none_str (fin_bl I q (by simp))
   | _ => exact absurd (show false = true from hs) Bool.false_ne_true
 | bl i =>
   cases rx
   cases y with
   | non => cases ry; exact PySem.EqNone.eq_bool_none (fin_bl I q (by simp))
   | bl j => cases ry; exact eq_bool (fin_bl I q dec_bl)
   | str j => obtain ⟨t', rfl⟩ := ry; exact PySem.EqMixed.eq_bool_str (fin_bl I q (by simp))
   | _ => exact absurd (show false = true from hs) Bool.false_ne_true
 | int i =>
   obtain ⟨t, rfl⟩ := rx
   cases y with
   | non => cases ry; exact PySem.EqNone.eq_int_none (fin_bl I q (by simp))
   | int j => obtain ⟨t', rfl⟩ := ry; exact eq_int (fin_bl I q dec_int)
   | str j => obtain ⟨t', rfl⟩ := ry; exact PySem.EqMixed.eq_int_str (fin_bl I q (by simp))
   | _ => exact absurd (show false = true from hs) Bool.false_ne_true
 | str i =>
   obtain ⟨t, rfl⟩ := rx
   cases y with
   | non => cases ry; exact PySem.EqNone.eq_str_none (fin_bl I q (by simp))
   | bl j => cases ry; exact PySem.EqMixed.eq_str_bool (fin_bl I q (by simp))
   | int j => obtain ⟨t', rfl⟩ := ry; exact PySem.EqMixed.eq_str_int (fin_bl I q (by simp))
   | str j => obtain ⟨t', rfl⟩ := ry; exact eq_str (fin_bl I q dec_str)
   | _ => exact absurd (show false = true from hs) Bool.false_ne_true
 | byt i =>
   obtain ⟨t, rfl⟩ := rx
   cases y with
   | byt j => obtain ⟨t', rfl⟩ := ry; exact PySem.W.eq_bytes (fin_bl I q dec_byt)
   | _ => exact absurd (show false = true from hs) Bool.false_ne_true
 | _ => cases y <;> exact absurd (show false = true from hs) Bool.false_ne_true
theorem op_ne : OpR X (compareOp .NotEq) rNe := by
 intro pins s σ H x y v u Q I rx ry h
 obtain ⟨hs, q⟩ := h
 cases x with
 | non =>
   cases rx
   cases y with
   | non => cases ry; exact PySem.EqNone.ne_none_none (fin_bl I q (by simp))
   | bl j => cases ry; exact PySem.EqNone.ne_none_bool (fin_bl I q (by simp))
   | int j => obtain ⟨t', rfl⟩ := ry; exact PySem.EqNone.ne_none_int (fin_bl I q (by simp))
   | str j => obtain ⟨t', rfl⟩ := ry; exact PySem.EqNone.ne_none_str (fin_bl I q (by simp))
   | _ => exact absurd (show false = true from hs) Bool.false_ne_true
 | bl i =>
   cases rx
   cases y with
   | non => cases ry; exact PySem.EqNone.ne_bool_none (fin_bl I q (by simp))
   | bl j => cases ry; exact ne_bool (fin_bl I q (congrArg not dec_bl))
   | str j => obtain ⟨t', rfl⟩ := ry; exact PySem.EqMixed.ne_bool_str (fin_bl I q (by simp))
   | _ => exact absurd (show false = true from hs) Bool.false_ne_true
 | int i =>
   obtain ⟨t, rfl⟩ := rx
   cases y with
   | non => cases ry; exact PySem.EqNone.ne_int_none (fin_bl I q (by simp))
   | int j => obtain ⟨t', rfl⟩ := ry; exact ne_int (fin_bl I q (congrArg not dec_int))
   | str j => obtain ⟨t', rfl⟩ := ry; exact PySem.EqMixed.ne_int_str (fin_bl I q (by simp))
   | _ => exact absurd (show false = true from hs) Bool.false_ne_true
 | str i =>
   obtain ⟨t, rfl⟩ := rx
   cases y with
   | non => cases ry; exact PySem.EqNone.ne_str_none (fin_bl I q (by simp))
   | bl j => cases ry; exact PySem.EqMixed.ne_str_bool (fin_bl I q (by simp))
   | int j => obtain ⟨t', rfl⟩ := ry; exact PySem.EqMixed.ne_str_int (fin_bl I q (by simp))
   | str j => obtain ⟨t', rfl⟩ := ry; exact ne_str (fin_bl I q (congrArg not dec_str))
   | _ => exact absurd (show false = true from hs) Bool.false_ne_true
 | byt i =>
   obtain ⟨t, rfl⟩ := rx
   cases y with
   | byt j => obtain ⟨t', rfl⟩ := ry; exact PySem.W.ne_bytes (fin_bl I q (congrArg not dec_byt))
   | _ => exact absurd (show false = true from hs) Bool.false_ne_true
 | _ => cases y <;> exact absurd (show false = true from hs) Bool.false_ne_true
theorem op_lt : OpR X (compareOp .Lt) (rI0 fun i j => .bl (decide (i < j))) := opB0 fun _ _ _ _ _ _ _ q => lt_int q
theorem op_le : OpR X (compareOp .LtE) (rI0 fun i j => .bl (decide (i ≤ j))) := opB0 fun _ _ _ _ _ _ _ q => le_int q
theorem op_gt : OpR X (compareOp .Gt) (rI0 fun i j => .bl (decide (j < i))) := opB0 fun _ _ _ _ _ _ _ q => gt_int q
theorem op_ge : OpR X (compareOp .GtE) (rI0 fun i j => .bl (decide (j ≤ i))) := opB0 fun _ _ _ _ _ _ _ q => ge_int q
theorem op_isN : OpR X (compareOp .Is) (fun x y H Q => y = .non ∧ Q (.bl (decide (x = .non))) H) := by
 intro pins s σ H x y v u Q I rx ry h
 obtain ⟨rfl, q⟩ := h
 cases ry
 refine is_none_gen (fin_bl I q ?_)
 cases x <;> first
   | (cases rx; rfl)
   | (obtain ⟨t, rfl⟩ := rx; rfl)
theorem nomark (b : Expr) {op : CmpOp} (h : op ≠ .In := by decide) (h2 : op ≠ .NotIn := by decide) : behindInMarks op b = false := by
 have e1 : (op == CmpOp.In) = false := by cases op <;> first | rfl | exact absurd rfl h
 have e2 : (op == CmpOp.NotIn) = false := by cases op <;> first | rfl | exact absurd rfl h2
 cases b <;> simp [behindInMarks, e1, e2]
theorem pe_cmpR {op : CmpOp} {r : R2} (ho : OpR X (compareOp op) r) (ha : PE X a ta) (hb : PE X b tb) (hm : behindInMarks op b = false) : PE X (.Compare a [op] [b] pos) (tOp r ta tb) := by
 intro pins s σ H Q I h
 exact wpAny_Compare1 (binT ha hb I h fun v u s2 x y H2 I2 rx ry q => ho pins s2 σ H2 x y v u Q I2 rx ry q) hm
def tTest (t : TE) : TT := fun σ H Q => t σ H fun x H' => ∃ k, x = .bl k ∧ Q k H'
theorem pt_cmpR {op : CmpOp} {r : R2} (ho : OpR X (compareOp op) r) (ha : PE X a ta) (hb : PE X b tb) (hm : behindInMarks op b = false) : PT X (.Compare a [op] [b] pos) (tTest (tOp r ta tb)) := by
 intro pins s σ H Q I h
 refine wpAny_isTrue_Compare1 (thn (ha pins s σ H _ I h) fun v s1 ⟨x, H1, I1, r1, q1⟩ => thn (hb pins s1 σ H1 _ I1 q1) fun u s2 ⟨y, H2, I2, r2, q2⟩ =>
   thn (ho pins s2 σ H2 x y v u _ I2 r1 r2 q2) fun c s3 ⟨z, H3, I3, r3, k, e, q3⟩ => ?_) hm
 subst e
 cases r3
 exact wpAny_truthy_bool ⟨H3, I3, q3⟩
def tChain (r r' : R2) (ta tb tc : TE) : TE := fun σ H Q => ta σ H fun x H1 => tb σ H1 fun y H2 => r x y H2 fun z H3 => ∃ k, z = .bl k ∧
 (if k = true then tc σ H3 fun w' H4 => r' y w' H4 Q else Q (.bl false) H3)
theorem pe_chain {op op' : CmpOp} {r r' : R2} (ho : OpR X (compareOp op) r) (ho' : OpR X (compareOp op') r') (ha : PE X a ta) (hb : PE X b tb) (hc : PE X c tc)
   (hm : lastMarks [op, op'] [b, c] = false := by with_unfolding_all rfl) : PE X (.Compare a [op, op'] [b, c] pos) (tChain r r' ta tb tc) := by
 intro pins s σ H Q I h
 refine Compare_chain (thn (ha pins s σ H _ I h) fun v s1 ⟨x, H1, I1, r1, q1⟩ => chain_link (thn (hb pins s1 σ H1 _ I1 q1) fun u s2 ⟨y, H2, I2, r2, q2⟩ =>
   thn (ho pins s2 σ H2 x y v u _ I2 r1 r2 q2) fun d s3 ⟨z, H3, I3, r3, k, e, q3⟩ => ?_)) hm
 subst e
 cases r3
 refine wpAny_truthy_bool ?_
 cases k with
 | false => exact ite_ff ⟨.bl false, H3, I3, rfl, q3⟩
 | true => exact ite_tt (chain_last (thn (hc pins s3 σ H3 _ I3 q3) fun w' s4 ⟨z', H4, I4, r4, q4⟩ => ho' pins s4 σ H4 y z' u w' Q I4 r2 r4 q4))
theorem pt_chain {op op' : CmpOp} {r r' : R2} (ho : OpR X (compareOp op) r) (ho' : OpR X (compareOp op') r') (ha : PE X a ta) (hb : PE X b tb) (hc : PE X c tc)
   (hm : lastMarks [op, op'] [b, c] = false := by with_unfolding_all rfl) : PT X (.Compare a [op, op'] [b, c] pos) (tTest (tChain r r' ta tb tc)) := by
 intro pins s σ H Q I h
 refine isTrue_chain (thn (ha pins s σ H _ I h) fun v s1 ⟨x, H1, I1, r1, q1⟩ => test_link (thn (hb pins s1 σ H1 _ I1 q1) fun u s2 ⟨y, H2, I2, r2, q2⟩ =>
   thn (ho pins s2 σ H2 x y v u _ I2 r1 r2 q2) fun d s3 ⟨z, H3, I3, r3, k, e, q3⟩ => ?_)) hm
 subst e
 cases r3
 refine wpAny_truthy_bool ?_
 cases k with
 | false =>
   obtain ⟨k', e', q'⟩ := q3
   cases e'
   exact ite_ff ⟨H3, I3, q'⟩
 | true =>
   refine ite_tt (test_last (thn (hc pins s3 σ H3 _ I3 q3) fun w' s4 ⟨z', H4, I4, r4, q4⟩ => thn (ho' pins s4 σ H4 y z' u w' _ I4 r2 r4 q4) fun d' s5 ⟨z2, H5, I5, r5, k2, e2, q5⟩ => ?_))
   subst e2
   cases r5
   exact wpAny_truthy_bool ⟨H5, I5, q5⟩
theorem line63 : (sizeLine : Nat) < 2 ^ 63 := by rw [sizeLine_eq]; decide
theorem vals1 {x : V} {us : List Value} (r : Vals [x] us) : ∃ u, us = [u] ∧ RelV x u := by
 cases r with
 | cons r1 r2 => cases r2; exact ⟨_, rfl, r1⟩
theorem vals2 {x y : V} {us : List Value} (r : Vals [x, y] us) : ∃ u w', us = [u, w'] ∧ RelV x u ∧ RelV y w' := by
 cases r with
 | cons r1 r2 =>
   cases r2 with
   | cons r3 r4 => cases r4; exact ⟨_, _, rfl, r1, r3⟩
theorem call_max2 (hc : X.calm = true) : CallR X (.builtin "max") (fun xs H Q => ∃ i j, xs = [.int i, .int j] ∧ Q (.int (if j > i then j else i)) H) := by
 intro pins s σ H xs us Q I r h
 obtain ⟨i, j, rfl, q⟩ := h
 obtain ⟨u, w', rfl, ⟨t, rfl⟩, ⟨t', rfl⟩⟩ := vals2 r
 refine max_two_ints (I.ok.hd hc) fun h' tk k => ⟨_, H, I.kept k, ?_, q⟩
 by_cases hj : j > i
 · rw [if_pos hj, if_pos hj]; exact ⟨_, rfl⟩
 · rw [if_neg hj, if_neg hj]; exact ⟨_, rfl⟩
theorem call_min2 (hc : X.calm = true) : CallR X (.builtin "min") (fun xs H Q => ∃ i j, xs = [.int i, .int j] ∧ Q (.int (if j < i then j else i)) H) := by
 intro pins s σ H xs us Q I r h
 obtain ⟨i, j, rfl, q⟩ := h
 obtain ⟨u, w', rfl, ⟨t, rfl⟩, ⟨t', rfl⟩⟩ := vals2 r
 refine min_two_ints (I.ok.hd hc) fun h' tk k => ⟨_, H, I.kept k, ?_, q⟩
 by_cases hj : j < i
 · rw [if_pos hj, if_pos hj]; exact ⟨_, rfl⟩
 · rw [if_neg hj, if_neg hj]; exact ⟨_, rfl⟩
end
end L2
namespace L2
open PySem PySem.Spec PyProof.Rows
structure ObjM (h : Heap) (x dx C : Addr) (mA : Str → Option Value) : Prop where
 obj : h.get? x = some (PySem.W.instObj C dx)
 ns : h.Ns1 dx mA
 ne : dx ≠ x
theorem lookIn_ns {h : Heap} {dx : Addr} {mA : Str → Option Value} (n : h.Ns1 dx mA) : ∃ od, h.get? dx = some od ∧ ∀ name, PySem.W.lookIn name od = some (mA name) := by
 obtain ⟨o, es, ep, ho, hd, hk, _, hm⟩ := n
 refine ⟨o, ho, fun name => ?_⟩
 have e := hm name
 unfold nsFind findBy at e
 rw [← Array.find?_toList] at e
 unfold PySem.W.lookIn
 rw [hd]
 dsimp only
 split
 · rename_i y q
   rw [q] at e
   exact congrArg some e
 · rename_i q
   rw [q] at e
   have a : es.toList.any (·.refKey) = false := by
     rw [List.any_eq_false]
     intro y hy
     obtain ⟨z, t, hkey⟩ := hk y (Array.mem_toList_iff.mp hy)
     simp [DictEntry.refKey, hkey]
   have a' : ¬ es.toList.any (·.refKey) = true := by rw [a]; exact Bool.false_ne_true
   rw [if_neg a']
   exact congrArg some e
theorem ObjM.look {h : Heap} {x dx C : Addr} {mA : Str → Option Value} (I : ObjM h x dx C mA) : ∃ od, PySem.W.InstAt h x (PySem.W.instObj C dx) C (some od) ∧ ∀ name, PySem.W.lookIn name od = some (mA name) :=
 let ⟨od, ho, hl⟩ := lookIn_ns I.ns
 ⟨od, ⟨I.obj, rfl, rfl, ho⟩, hl⟩
section
variable {prog : Program} {w : World} {A : Around} {E : Value → Shared → Prop} {s : Shared} {K : PySem.W.Frag} {x dx C f : Addr} {mA : Str → Option Value} {name : Str} {v : Value}
theorem get_map {expr : Bool} {Q : Value → Shared → Prop} (X : K.In s.heap) (I : ObjM s.heap x dx C mA) (hg : PySem.W.plainGet K C name = true) (hh : PySem.W.hasDictIn K C = true)
   (ha : PySem.W.findIn K (.ref C) name = some none) (hv : mA name = some v) (hv' : PySem.W.handedIn v = true) (h : Q v { s with toks := s.toks + 1 }) :
   wpAny (model prog w) A (getAttr (.ref x) name expr) Q E s := by
 obtain ⟨od, J, hl⟩ := I.look
 exact PySem.W.get_value X J (PySem.W.plainGet_of hg).1 (PySem.W.findObj_own hh ha rfl (by rw [hl, hv])) hv' h
theorem get_meth {pl : Sem Bool} {Q : Value × List Value → Shared → Prop} (X : K.In s.heap) (I : ObjM s.heap x dx C mA) (hg : PySem.W.plainGet K C name = true)
   (hf : PySem.W.findIn K (.ref C) name = some (some (.ref f))) (ht : PySem.W.isFn K (.ref f) = true) (hv : mA name = none) (h : Q (.ref f, [.ref x]) s) :
   wpAny (model prog w) A (getMethod (.ref x) name pl) Q E s := by
 obtain ⟨od, J, hl⟩ := I.look
 exact PySem.W.method_fn X J (PySem.W.plainGet_of hg).1 (PySem.W.plainGet_of hg).2 hf (beq_iff_eq.mp ht) (by show (PySem.W.lookIn name od).map (·.isSome) = some false; rw [hl, hv]; rfl) h
theorem set_map {ns : List Str} {Q : Unit → Shared → Prop} (X : K.In s.heap) (I : ObjM s.heap x dx C mA)
   (hs : PySem.W.findIn K (.ref C) "__setattr__" = some (some (.builtin "object.__setattr__"))) (hp : PySem.W.plainOver K C = true) (ht : PySem.W.takerIn K C name = some none) (hh : PySem.W.hasDictIn K C = true)
   (hw : PySem.Within mA ns) (hsz : ns.length ≤ sizeLine)
   (h : ∀ h', ObjM h' x dx C (fun y => if y = name then some v else mA y) → Heap.SameBut dx s.heap h' → Q () { s with heap := h', toks := s.toks + 2 }) :
   wpAny (model prog w) A (setAttr (.ref x) name v) Q E s := by
 obtain ⟨od, J, hl⟩ := I.look
 refine PySem.W.set_plain X J hs (PySem.W.osa_open (s := { s with toks := s.toks + 1 }) (r := none) X J hp ht fun b => ?_)
 obtain ⟨cd, hc, hd'⟩ := PySem.W.any_some hh
 have hx : s.heap.get? x = some ⟨.ref C, some dx, .plain, #[]⟩ := I.obj
 refine wpAny_bind (wpAny_pure (wpAny_bind (wpAny_bind (wpAny_loadPart hx (wpAny_bind (PySem.W.Looks.here (s := { s with toks := s.toks + 1 }) (PySem.W.looks_clsIn X hc) ?_))))))
 rw [hd']
 refine wpAny_pure (a := some dx) (wpAny_bind (wpAny_pure (wpAny_bind ?_)))
 refine wpAny_nsSet1 (s := { s with toks := s.toks + 1 }) I.ns fun h' hn2 hs2 => ?_
 obtain ⟨oD, esD, epD, hoD, hdD, hcD⟩ := hn2.count (PySem.Within.cons name v hw)
 refine wpAny_bind (wpAny_lookBehind hoD (by rw [hdD]; exact pastItsLine_dict (Nat.le_trans hcD (by rw [List.length_cons]; omega))) ?_)
 exact wpAny_pure (h _ ⟨(hs2.2 _ (Ne.symm I.ne)).trans I.obj, hn2, I.ne⟩ hs2)
theorem make_map {R : Result → Shared → Prop} {vs : List Value} {kw : List (Str × Value)} (X : K.In s.heap) (hm : PySem.W.makesIn K C = true)
   (hi : PySem.W.findIn K (.ref C) "__init__" = some (some (.ref f))) (hf : PySem.W.typeIn K (.ref f) = some (.type "function"))
   (h : codeAny (model prog w) (A.under (.builtin "type.__call__" ⟨.ref C :: vs, kw⟩)) (.call (.ref f) ⟨.ref (s.heap.objs.size + 1) :: vs, kw⟩) (PySem.W.InitBack (s.heap.objs.size + 1) R)
     { s with heap := (s.heap.push PySem.W.emptyDict).push (PySem.W.instObj C s.heap.objs.size) }) :
   codeAny (model prog w) A (.call (.ref C) ⟨vs, kw⟩) R s := by
 obtain ⟨hh, g, d, t, os⟩ := s
 exact PySem.W.make_core (PySem.W.makes_of X hm) (PySem.W.looks_findIn X hi) (fun self => PySem.W.bind_fn X self hf) (.inl rfl) h
end
def putF (f : Str) (v : V) : List (Str × V) → List (Str × V)
 | [] => [(f, v)]
 | (g, x) :: r => if g = f then (g, v) :: r else (g, x) :: putF f v r
theorem lookup_putF (f g : Str) (v : V) : ∀ fs : List (Str × V), (putF f v fs).lookup g = if g = f then some v else fs.lookup g
 | [] => by
   show List.lookup g [(f, v)] = _
   by_cases h : g = f
   · have hb : (g == f) = true := beq_iff_eq.mpr h
     simp only [List.lookup, hb, if_pos h]
   · have hb : (g == f) = false := beq_eq_false_iff_ne.mpr h
     simp only [List.lookup, hb, if_neg h]
 | (k, x) :: r => by
   have ih := lookup_putF f g v r
   rw [show putF f v ((k, x) :: r) = (if k = f then (k, v) :: r else (k, x) :: putF f v r) from rfl]
   by_cases hk : k = f
   · rw [if_pos hk]
     by_cases h : g = k
     · have hb : (g == k) = true := beq_iff_eq.mpr h
       simp only [List.lookup, hb, if_pos (h.trans hk)]
     · have hb : (g == k) = false := beq_eq_false_iff_ne.mpr h
       simp only [List.lookup, hb, if_neg (fun e : g = f => h (e.trans hk.symm))]
   · rw [if_neg hk]
     by_cases h : g = k
     · have hb : (g == k) = true := beq_iff_eq.mpr h
       simp only [List.lookup, hb, if_neg (fun e : g = f => hk (h.symm.trans e))]
     · have hb : (g == k) = false := beq_eq_false_iff_ne.mpr h
       simp only [List.lookup, hb]
       exact ih
theorem keys_putF (f : Str) (v : V) : ∀ fs : List (Str × V), f ∈ (putF f v fs).map (·.1) ∧ ∀ g, g ∈ fs.map (·.1) → g ∈ (putF f v fs).map (·.1)
 | [] => ⟨by simp [putF], fun g h => by simp at h⟩
 | (k, x) :: r => by
   obtain ⟨i1, i2⟩ := keys_putF f v r
   rw [show putF f v ((k, x) :: r) = (if k = f then (k, v) :: r else (k, x) :: putF f v r) from rfl]
   by_cases hk : k = f
   · rw [if_pos hk]
     subst hk
     exact ⟨by simp, fun g h => by simpa using h⟩
   · rw [if_neg hk]
     refine ⟨?_, fun g h => ?_⟩
     · rw [List.map_cons]
       exact List.mem_cons_of_mem _ i1
     · rw [List.map_cons] at h ⊢
       rcases List.mem_cons.mp h with e | e
       · exact List.mem_cons.mpr (.inl e)
       · exact List.mem_cons_of_mem _ (i2 g e)
theorem length_putF (f : Str) (v : V) : ∀ fs : List (Str × V), (putF f v fs).length ≤ fs.length + 1
 | [] => by simp [putF]
 | (k, x) :: r => by
   have ih := length_putF f v r
   rw [show putF f v ((k, x) :: r) = (if k = f then (k, v) :: r else (k, x) :: putF f v r) from rfl]
   by_cases hk : k = f
   · rw [if_pos hk, List.length_cons, List.length_cons]; omega
   · rw [if_neg hk, List.length_cons, List.length_cons]; omega
theorem RelO.some_of {v : V} {o : Option Value} (r : RelO (some v) o) : ∃ u, o = some u ∧ RelV v u := by
 cases o with
 | none => exact (show False from r).elim
 | some u => exact ⟨u, rfl, r⟩
theorem RelO.none_of {o : Option Value} (r : RelO none o) : o = none := by
 cases o with
 | none => rfl
 | some u => exact (show False from r).elim
theorem handed_of {v : V} {u : Value} (r : RelV v u) : PySem.W.handedIn u = true := by
 cases v with
 | non => cases (show u = Value.none from r); rfl
 | bl b => cases (show u = Value.bool b from r); rfl
 | int i => obtain ⟨t, e⟩ := (show ∃ t, u = Value.int i t from r); cases e; rfl
 | str x => obtain ⟨t, e⟩ := (show ∃ t, u = Value.str x t from r); cases e; rfl
 | byt b => obtain ⟨t, e⟩ := (show ∃ t, u = Value.bytes b t from r); cases e; rfl
 | flt b => obtain ⟨t, e⟩ := (show ∃ t, u = Value.float b t from r); cases e; rfl
 | ref a => cases (show u = Value.ref a from r); rfl
 | ty n => cases (show u = Value.type n from r); rfl
section
variable {P : Program} {w : World} {H H' : Hp} {h h' : Heap} {a C dx : Addr} {fs fs' : List (Str × V)}
theorem ins_get (hok : HOk P w H h) (e : H a = some (.ins C dx fs)) : ∃ mA, ObjM h a dx C mA ∧ (∀ f, RelO (fs.lookup f) (mA f)) ∧ PySem.Within mA (fs.map (·.1)) ∧ fs.length ≤ 1000 ∧ H dx = some (.own a) := by
 obtain ⟨d, z, ne, ob, mA, n, r, q⟩ := (show ObjOk P w H h a (.ins C dx fs) from hok a _ e)
 exact ⟨mA, ⟨ob, n, ne⟩, r, q, z, d⟩
end
structure Cls (K : PySem.W.Frag) (C : Addr) : Prop where
 pg : PySem.W.plainGet K C Str.empty = true
 hd : PySem.W.hasDictIn K C = true
 po : PySem.W.plainOver K C = true
 sa : PySem.W.findIn K (.ref C) "__setattr__" = some (some (.builtin "object.__setattr__"))
theorem Cls.get {K : PySem.W.Frag} {C : Addr} (c : Cls K C) (f : Str) : PySem.W.plainGet K C f = true := c.pg
def NoAttr (K : PySem.W.Frag) (C : Addr) (f : Str) : Prop := PySem.W.findIn K (.ref C) f = some none
theorem NoAttr.taker {K : PySem.W.Frag} {C : Addr} {f : Str} (n : NoAttr K C f) : PySem.W.takerIn K C f = some none := by
 unfold PySem.W.takerIn
 rw [show PySem.W.findIn K (.ref C) f = some none from n]
 rfl
structure Meth (K : PySem.W.Frag) (C : Addr) (m : Str) (f : Addr) : Prop where
 at_ : PySem.W.findIn K (.ref C) m = some (some (.ref f))
 fn : PySem.W.isFn K (.ref f) = true
 kp : PySem.W.keepIn K (.ref f) = true
section
variable {X : Cx} {pins : List (Addr × Obj)} {σ : St} {H : Hp} {s : Shared} {a C dx : Addr} {fs : List (Str × V)} {f : Str} {v : V} {A : Around} {E : Value → Shared → Prop}
theorem getattr_ok {b : Bool} {Q : Value → Shared → Prop} (I : Inv X pins σ H s) (e : H a = some (.ins C dx fs)) (c : Cls X.K C) (n : NoAttr X.K C f) (l : fs.lookup f = some v)
   (h : ∀ u s', Inv X pins σ H s' → RelV v u → Q u s') : wpAny (model X.prog X.w) A (getAttr (.ref a) f b) Q E s := by
 obtain ⟨mA, O, r, _, _, _⟩ := ins_get I.hok e
 obtain ⟨u, hu, ru⟩ := RelO.some_of (v := v) (o := mA f) (by rw [← l]; exact r f)
 exact get_map I.kIn O (c.get f) c.hd n hu (handed_of ru) (h u _ (I.tok _) ru)
theorem getmeth_ok {m : Str} {g : Addr} {pl : Sem Bool} {Q : Value × List Value → Shared → Prop} (I : Inv X pins σ H s) (e : H a = some (.ins C dx fs)) (c : Cls X.K C) (k : Meth X.K C m g) (l : fs.lookup m = none)
   (h : Q (.ref g, [.ref a]) s) : wpAny (model X.prog X.w) A (getMethod (.ref a) m pl) Q E s := by
 obtain ⟨mA, O, r, _, _, _⟩ := ins_get I.hok e
 have hn : mA m = none := RelO.none_of (by rw [← l]; exact r m)
 exact get_meth I.kIn O (c.get m) k.at_ k.fn hn h
theorem setattr_ok {y : V} {u : Value} {Q : Unit → Shared → Prop} (I : Inv X pins σ H s) (e : H a = some (.ins C dx fs)) (c : Cls X.K C) (n : NoAttr X.K C f) (hl : fs.length < 1000) (ry : RelV y u)
   (h : ∀ s', Inv X pins σ (upd H a (.ins C dx (putF f y fs))) s' → Q () s') : wpAny (model X.prog X.w) A (setAttr (.ref a) f u) Q E s := by
 obtain ⟨mA, O, r, wi, _, ho⟩ := ins_get I.hok e
 have hz : (fs.map (·.1)).length ≤ sizeLine := by rw [List.length_map, sizeLine_eq]; omega
 refine set_map I.kIn O c.sa c.po n.taker c.hd wi hz fun h' O' sb => h _ ?_
 have hd : ∃ o, h'.get? dx = some o := let ⟨o, _, _, e', _⟩ := O'.ns; ⟨o, e'⟩
 refine I.write (x := a) (e := dx) (by rw [e]; exact True.intro) (.inr ho) (fun b q hb z => (sb.2 b hb).trans z) hd ?_
 refine ⟨by rw [upd_ne O.ne]; exact ho, ?_, O.ne, O'.obj, _, O'.ns, fun g => ?_, fun g hg => ?_⟩
 · have := length_putF f y fs; omega
 · show RelO ((putF f y fs).lookup g) (if g = f then some u else mA g)
   rw [lookup_putF]
   by_cases q : g = f
   · rw [if_pos q, if_pos q]; exact ry
   · rw [if_neg q, if_neg q]; exact r g
 · by_cases q : g = f
   · rw [q]; exact (keys_putF f y fs).1
   · refine (keys_putF f y fs).2 g (wi g fun z => hg ?_)
     show (if g = f then some u else mA g) = none
     rw [if_neg q]; exact z
theorem Inv.made (I : Inv X pins σ H s) : Inv X pins σ (upd (upd H s.heap.objs.size (.own (s.heap.objs.size + 1))) (s.heap.objs.size + 1) (.ins C s.heap.objs.size []))
   { s with heap := (s.heap.push PySem.W.emptyDict).push (PySem.W.instObj C s.heap.objs.size) } := by
 have e1 : (s.heap.push PySem.W.emptyDict).get? s.heap.objs.size = some PySem.W.emptyDict := Heap.get?_push_size s.heap rfl
 have e2 : ((s.heap.push PySem.W.emptyDict).push (PySem.W.instObj C s.heap.objs.size)).get? (s.heap.objs.size + 1) = some (PySem.W.instObj C s.heap.objs.size) := by
   have := Heap.get?_push_size (s.heap.push PySem.W.emptyDict) (o := PySem.W.instObj C s.heap.objs.size) rfl
   rwa [Heap.size_push] at this
 have e3 : (s.heap.push PySem.W.emptyDict).Ns s.heap.objs.size (fun _ => none) := ⟨PySem.W.emptyDict, #[], _, e1, rfl, (fun e he => absurd he (by simp)), fun _ => rfl⟩
 have I1 := I.laid (a := s.heap.objs.size) (o := .own (s.heap.objs.size + 1)) (h' := s.heap.push PySem.W.emptyDict) (t' := s.toks) (fun b u q => Heap.get?_push_of_some _ q) (Nat.le_refl _) ⟨_, e1⟩
 refine I1.laid (a := s.heap.objs.size + 1) (o := .ins C s.heap.objs.size []) (t' := s.toks) (fun b u q => Heap.get?_push_of_some _ q) (Nat.le_of_eq (Heap.size_push _ _)) ?_
 have ne : s.heap.objs.size ≠ s.heap.objs.size + 1 := Nat.ne_of_lt (Nat.lt_succ_self _)
 refine ⟨by rw [upd_ne ne, upd_same], Nat.zero_le _, ne, e2, fun _ => none, (Heap.Ns1.of_empty e3).at fun o q => Heap.get?_push_of_some _ q, fun _ => True.intro, fun y hy => absurd rfl hy⟩
theorem attr_of {prog : Program} {w : World} {env : Env} {e : Expr} {f : Str} {pos : Pos} {s : Shared} {Q : Value → Shared → Prop} (hb : attributeBase e f env (eval e env) = eval e env)
   (h : wpAny (model prog w) A (eval e env) (fun o s₁ => wpAny (model prog w) A (getAttr o f true) Q E s₁) E s) : wpAny (model prog w) A (eval (.Attribute e f pos) env) Q E s :=
 Attribute_any_ h (by rw [arm_eval_Attribute, hb])
end
def tFld (K : PySem.W.Frag) (ta : TE) (f : Str) : TE := fun σ H Q => ta σ H fun x H1 => ∃ a C dx fs v, x = .ref a ∧ H1 a = some (.ins C dx fs) ∧ Cls K C ∧ NoAttr K C f ∧ fs.lookup f = some v ∧ Q v H1
def sFld (K : PySem.W.Frag) (ta tv : TE) (f : Str) : TS := fun D σ H => tv σ H fun y H1 => ta σ H1 fun x H2 => ∃ a C dx fs, x = .ref a ∧ H2 a = some (.ins C dx fs) ∧ Cls K C ∧ NoAttr K C f ∧ fs.length < 1000 ∧
 D.nx σ (upd H2 a (.ins C dx (putF f y fs)))
def InOp (X : Cx) (op : Operator) (rd : V → V → Hp → VK → Prop) : Prop :=
 ∀ (pins : List (Addr × Obj)) (s : Shared) (σ : St) (H : Hp) (x y : V) (u v : Value) (Q : VK), Inv X pins σ H s → RelV x u → RelV y v → rd x y H Q → wpAny (model X.prog X.w) X.A (inplaceOp op u v) (EP X pins σ Q) X.xe s
def sFldAug (K : PySem.W.Frag) (ta tv : TE) (rd : V → V → Hp → VK → Prop) (f : Str) : TS := fun D σ H => ta σ H fun x H1 => ∃ a C dx fs v, x = .ref a ∧ H1 a = some (.ins C dx fs) ∧ Cls K C ∧ NoAttr K C f ∧ fs.lookup f = some v ∧
 tv σ H1 fun y H2 => rd v y H2 fun z H3 => ∃ dx' fs', H3 a = some (.ins C dx' fs') ∧ fs'.length < 1000 ∧ D.nx σ (upd H3 a (.ins C dx' (putF f z fs')))
section
variable {X : Cx} {o e value : Expr} {f : Str} {pos pos' tpos : Pos} {ta tv : TE}
theorem pe_fld (he : PE X e ta) (hb : attributeBase e f X.env (eval e X.env) = eval e X.env) : PE X (.Attribute e f pos) (tFld X.K ta f) := by
 intro pins s σ H Q I h
 refine attr_of hb (thn (he pins s σ H _ I h) fun u s1 ⟨x, H1, I1, rx, a, C, dx, fs, v, ex, ea, c, n, l, q⟩ => ?_)
 subst ex
 obtain rfl : u = Value.ref a := rx
 exact getattr_ok I1 ea c n l fun u' s2 I2 ru => ⟨v, H1, I2, ru, q⟩
theorem ps_fld (ha : PE X o ta) (hv : PE X value tv) (hs : swapsWith value (some (.Attribute o f pos')) pos.line X.env = pure false) : PS X (.Assign [.Attribute o f pos'] value pos) (sFld X.K ta tv f) := by
 intro pins s σ H D I h
 refine plainObj_wpAny_Assign_Attribute (thn (hv pins s σ H _ I h) fun u s1 ⟨y, H1, I1, ry, q⟩ => thn (ha pins s1 σ H1 _ I1 q) fun ov s2 ⟨x, H2, I2, rx, a, C, dx, fs, ex, ea, c, n, l, q2⟩ => ?_) hs
 subst ex
 obtain rfl : ov = Value.ref a := rx
 exact setattr_ok I2 ea c n l ry fun s3 I3 => ⟨σ, _, I3, q2⟩
theorem ps_fldaug {op : Operator} {rd : V → V → Hp → VK → Prop} (ha : PE X o ta) (hv : PE X value tv) (hop : InOp X op rd) : PS X (.AugAssign (.Attribute o f tpos) op value pos) (sFldAug X.K ta tv rd f) := by
 intro pins s σ H D I h
 refine wpAny_AugAssign_AttributeAny (thn (ha pins s σ H _ I h) fun ov s1 ⟨x, H1, I1, rx, a, C, dx, fs, v, ex, ea, c, n, l, q⟩ => ?_)
 subst ex
 obtain rfl : ov = Value.ref a := rx
 refine getattr_ok I1 ea c n l fun u s2 I2 ru => thn (hv pins s2 σ H1 _ I2 q) fun w3 s3 ⟨y, H2, I3, ry, q3⟩ => thn (hop pins s3 σ H2 v y u w3 _ I3 ru ry q3) fun w4 s4 ⟨z, H3, I4, rz, dx', fs', ea', l', q4⟩ => ?_
 exact setattr_ok I4 ea' c n l' rz fun s5 I5 => ⟨σ, _, I5, q4⟩
def rAdd : V → V → Hp → VK → Prop := fun x y H Q => ∃ i j, x = .int i ∧ y = .int j ∧ Q (.int (i + j)) H
theorem in_add : InOp X .Add rAdd := by
 rintro pins s σ H x y u v Q I rx ry ⟨i, j, rfl, rfl, q⟩
 obtain ⟨t, rfl⟩ := (show ∃ t, u = Value.int i t from rx)
 obtain ⟨t', rfl⟩ := (show ∃ t', v = Value.int j t' from ry)
 exact PyProof.Rows.iadd_int ⟨.int (i + j), H, I.tok _, ⟨_, rfl⟩, q⟩
theorem methcall_of {pl : Sem Bool} {m : Str} {apos : Pos} {args : List Expr} {pins : List (Addr × Obj)} {s : Shared} {σ : St} {H : Hp} {Q : Value → Shared → Prop} {te : TE} (he : PE X e te) (I : Inv X pins σ H s)
   (h : te σ H fun x H1 => ∃ a C dx fs g, x = .ref a ∧ H1 a = some (.ins C dx fs) ∧ Cls X.K C ∧ Meth X.K C m g ∧ fs.lookup m = none ∧
     ∀ s1, Inv X pins σ H1 s1 → wpAny (model X.prog X.w) X.A (callWith pos (.ref g) [.ref a] (backTo pos (starEach args X.env)) (backToKw pos (keywordEach [] X.env))) Q X.xe s1)
   (ht : eval (.Call (.Attribute e m apos) args [] pos) X.env = (do
     let ov ← eval e X.env
     standAt apos.atName
     let (f, first) ← holding [ov] (getMethod ov m pl)
     callWith pos f first (backTo pos (starEach args X.env)) (backToKw pos (keywordEach [] X.env)))) :
   wpAny (model X.prog X.w) X.A (eval (.Call (.Attribute e m apos) args [] pos) X.env) Q X.xe s := by
 refine PySem.W.methodCall_KW (pl := pl) (thn (he pins s σ H _ I h) fun u s1 ⟨x, H1, I1, rx, a, C, dx, fs, g, ex, ea, c, k, l, q⟩ => ?_) ht
 subst ex
 obtain rfl : u = Value.ref a := rx
 exact getmeth_ok I1 ea c k l (q s1 I1)
end
end L2
namespace L2
open PySem PySem.Spec PyProof.Rows
structure Room (k : Nat) (A : Around) : Prop where
 hd : A.handled = none
 dp : A.depth + 3 * k + 5 < recursionLimit
 un : A.units + 16 * k + 200 < cLine
theorem Room.mono {j k : Nat} {A : Around} (r : Room k A) (h : j ≤ k) : Room j A := ⟨r.hd, by have := r.dp; omega, by have := r.un; omega⟩
theorem Room.deeper {k : Nat} {A : Around} (r : Room (k + 1) A) (env : Env) : Room k (A.deeper env) :=
 ⟨r.hd, by have := r.dp; show A.depth + 1 + 3 * k + 5 < _; omega, by have := r.un; show A.units + 3 + 16 * k + 200 < _; omega⟩
theorem make_depth {A : Around} {C : Addr} {us : List Value} {kw : List (Str × Value)} : (A.under (.builtin "type.__call__" ⟨.ref C :: us, kw⟩)).depth = A.depth + 1 := by
 first | rfl | simp [Around.under, Code.weight, Code.isCreation, Code.isGuard, Code.isCaller, Code.frames, Code.isFrame, guardIds]
theorem make_units {A : Around} {C : Addr} {us : List Value} {kw : List (Str × Value)} : (A.under (.builtin "type.__call__" ⟨.ref C :: us, kw⟩)).units = A.units + 1 := by
 first | rfl | simp [Around.under, Code.cUnits, Code.frames, Code.isFrame]
theorem Room.make {k : Nat} {A : Around} (r : Room (k + 1) A) (C : Addr) (us : List Value) (kw : List (Str × Value)) : Room k (A.under (.builtin "type.__call__" ⟨.ref C :: us, kw⟩)) :=
 ⟨r.hd, by have := r.dp; rw [make_depth]; omega, by have := r.un; rw [make_units]; omega⟩
theorem Room.depth {k : Nat} {A : Around} (r : Room k A) : A.depth < recursionLimit := by have := r.dp; omega
theorem Room.units {k : Nat} {A : Around} (r : Room k A) : A.units + 64 < cLine := by have := r.un; omega
def tNil : TA := fun _ H Q => Q [] H
def tCons (ta : TE) (tr : TA) : TA := fun σ H Q => ta σ H fun x H1 => tr σ H1 fun xs H2 => Q (x :: xs) H2
section
variable {X : Cx} {e : Expr} {es : List Expr} {te : TE} {t : TA} {pos : Pos}
theorem pa_nil : PA X [] tNil := fun _ _ _ _ H Q I h => Calls.spliced_nil ⟨[], H, I, .nil, h⟩
theorem pa_cons (ha : PE X e te) (hr : PA X es t) (hs : starEach (e :: es) X.env = (false, eval e X.env) :: starEach es X.env := by rfl) : PA X (e :: es) (tCons te t) := by
 intro pos pins s σ H Q I h
 rw [hs]
 show wpAny _ _ (spliced ((false, eval e X.env) :: backTo pos (starEach es X.env))) _ _ s
 refine Calls.spliced_cons (thn (ha pins s σ H _ I h) fun u s1 ⟨x, H1, I1, r1, q1⟩ => ?_)
 exact thn (hr pos pins s1 σ H1 _ I1 q1) fun us s2 ⟨xs, H2, I2, r2, q2⟩ => ⟨x :: xs, H2, I2, .cons r1 r2, q2⟩
def tTup (t : TA) : TE := fun σ H Q => t σ H fun xs H1 => xs.length ≤ sizeLine ∧ ∀ p, H1 p = none → Q (.ref p) (upd H1 p (.tup xs))
def tLst (t : TA) : TE := fun σ H Q => t σ H fun xs H1 => xs.length ≤ sizeLine ∧ ∀ p, H1 p = none → Q (.ref p) (upd H1 p (.lst xs))
theorem pe_tup {x1} (h : PA X es t) : PE X (.Tuple es x1 pos) (tTup t) := by
 intro pins s σ H Q I hq
 refine wpAny_Tuple_spliced (thn (h pos pins s σ H _ I hq) fun us s1 ⟨xs, H1, I1, r, z, q⟩ => ⟨by rw [← r.length]; exact z, ?_⟩)
 have hf : H1 s1.heap.objs.size = none := I1.hok.fresh (Nat.le_refl _)
 refine ⟨.ref s1.heap.objs.size, upd H1 s1.heap.objs.size (.tup xs), I1.laid (t' := s1.toks) (fun b u e => Heap.get?_push_of_some _ e) (Nat.le_refl _) ?_, rfl, q _ hf⟩
 exact ⟨z, us, r, ⟨_, Heap.get?_push_size _ rfl, rfl, _, rfl⟩⟩
theorem pe_lst (h : PA X es t) : PE X (.List es pos) (tLst t) := by
 intro pins s σ H Q I hq
 refine wpAny_List_spliced (thn (h pos pins s σ H _ I hq) fun us s1 ⟨xs, H1, I1, r, z, q⟩ => ⟨by rw [← r.length]; exact z, ?_⟩)
 have hf : H1 s1.heap.objs.size = none := I1.hok.fresh (Nat.le_refl _)
 refine ⟨.ref s1.heap.objs.size, upd H1 s1.heap.objs.size (.lst xs), I1.laid (t' := s1.toks) (fun b u e => Heap.get?_push_of_some _ e) (Nat.le_refl _) ?_, rfl, q _ hf⟩
 exact ⟨z, us, 0, r, Heap.get?_push_size _ rfl⟩
end
abbrev Sp := List V → Hp → VK → XK → Prop
abbrev CXT := List Env → Hp → Shared → XK → Value → Shared → Prop
structure Env0 (P : Program) (w : World) (K : PySem.W.Frag) (mg : Str → Option Value) (base : Heap) (A : Around) (outer : List Env) (s : Shared) (H : Hp) : Prop where
 frames : A.frames = some outer
 mod : Mod K mg base
 bs : ∀ b o, base.get? b = some o → s.heap.get? b = some o ∧ H b = none
 bsz : base.objs.size ≤ s.heap.objs.size
 funs : s.heap.FunFrames base outer
 frf : ∀ b ∈ frs outer, H b = none
 hok : HOk P w H s.heap
 bare : AllBare s.gens
def CE (outer : List Env) (P : Program) (w : World) (H : Hp) (s : Shared) (Q : VK) (u : Value) (s' : Shared) : Prop :=
 ∃ v H', s'.os = s.os ∧ AllBare s'.gens ∧ Un (frs outer) [] H H' s.heap s'.heap ∧ HOk P w H' s'.heap ∧ RelV v u ∧ Q v H'
def CR (CX : CXT) (outer : List Env) (P : Program) (w : World) (H : Hp) (s : Shared) (Q : VK) (E : XK) (r : Result) (s' : Shared) : Prop :=
 match r with
 | .ok (.ret u) => CE outer P w H s Q u s'
 | .ok _ => False
 | .error e => CX outer H s E e s'
structure FnOk (P : Program) (w : World) (K : PySem.W.Frag) (mg : Str → Option Value) (base : Heap) (CX : CXT) (k : Nat) (f : Addr) (fd : FuncData) (ps : List Str) (sp : Sp) : Prop where
 len : ∀ vs H Q E, sp vs H Q E → vs.length = ps.length
 run : ∀ (A : Around) (outer : List Env) (s : Shared) (H : Hp) (args : Args) (us : List Value) (vs : List V) (Q : VK) (E : XK), Room k A → Env0 P w K mg base A outer s H → BindsTo s fd args (ps.zip us) → Vals vs us → sp vs H Q E →
   codeAny (model P w) A (.call (.ref f) args) (CR CX outer P w H s Q E) s
theorem Env0.make {P : Program} {w : World} {K : PySem.W.Frag} {mg : Str → Option Value} {base : Heap} {A : Around} {outer : List Env} {s : Shared} {H : Hp} (e : Env0 P w K mg base A outer s H) (C : Addr) (us : List Value) (kw : List (Str × Value)) :
   Env0 P w K mg base (A.under (.builtin "type.__call__" ⟨.ref C :: us, kw⟩)) outer s H := ⟨by first | exact e.frames | (simpa [Around.under, Code.envs, Code.isFrame, pushEnvs] using e.frames), e.mod, e.bs, e.bsz, e.funs, e.frf, e.hok, e.bare⟩
section
variable {X : Cx} {pins : List (Addr × Obj)} {σ : St} {H : Hp} {s s' : Shared}
theorem Inv.env0 (I : Inv X pins σ H s) : Env0 X.prog X.w X.K X.mg X.base X.A X.stack s H :=
 ⟨I.ok.frames, I.ok.mod, I.bs, Nat.le_trans I.ok.bsz I.sz, I.stack, I.stkFree, I.hok, I.bare⟩
theorem Inv.after {Q : VK} {u : Value} (I : Inv X pins σ H s) (h : CE X.stack X.prog X.w H s Q u s') : EP X pins σ Q u s' := by
 obtain ⟨v, H', os, bare, un, hok, r, q⟩ := h
 obtain ⟨hh, g, d, t, os'⟩ := s'
 obtain rfl : os' = s.os := os
 exact ⟨v, H', I.call (h' := hh) (g' := g) (d' := d) (t' := t) (ch := []) un hok bare (fun b z => absurd z (by simp)), r, q⟩
end
def tCall (sp : Sp) (dvs : List V) (E : XK) (t : TA) : TE := fun σ H Q => t σ H fun vs H1 => sp (vs ++ dvs) H1 Q E
def tMeth (C : Addr) (m : Str) (sp : Sp) (dvs : List V) (E : XK) (ta : TE) (t : TA) : TE := fun σ H Q => ta σ H fun x H1 => ∃ a dx fs, x = .ref a ∧ H1 a = some (.ins C dx fs) ∧ fs.lookup m = none ∧
 t σ H1 fun vs H2 => sp (x :: (vs ++ dvs)) H2 Q E
def tMake (C : Addr) (sp : Sp) (dvs : List V) (E : XK) (t : TA) : TE := fun σ H Q => t σ H fun vs H1 => ∀ x dx, H1 x = none → H1 dx = none → dx ≠ x →
 sp (.ref x :: (vs ++ dvs)) (upd (upd H1 dx (.own x)) x (.ins C dx [])) (fun v H2 => v = .non ∧ Q (.ref x) H2) E
def Binds (K : PySem.W.Frag) (fd : FuncData) (ps : List Str) (ds : List Value) : Prop :=
 ∀ (s : Shared) (us : List Value), K.In s.heap → (us ++ ds).length = ps.length → BindsTo s fd ⟨us, []⟩ (ps.zip (us ++ ds))
theorem Binds.all {K : PySem.W.Frag} {fd : FuncData} {ps : List Str} (h : ∀ us : List Value, us.length = ps.length → bindArgs fd ⟨us, []⟩ = pure (ps.zip us)) : Binds K fd ps [] := fun s us _ hl => by
 rw [List.append_nil] at hl ⊢
 exact .of_eq (h us hl)
def Passes (CX : CXT) (X : Cx) (E : XK) : Prop := ∀ (pins : List (Addr × Obj)) (σ : St) (H : Hp) (s : Shared) (e : Value) (s' : Shared), Inv X pins σ H s → CX X.stack H s E e s' → X.xe e s'
section
variable {X : Cx} {CX : CXT} {k : Nat} {f C : Addr} {fd : FuncData} {ps : List Str} {sp : Sp} {dvs : List V} {ds : List Value} {E : XK} {x m : Str} {p pos apos : Pos} {e o : Expr} {es : List Expr} {ta : TE} {t : TA}
theorem run_fn {pins : List (Addr × Obj)} {σ : St} {H : Hp} {s : Shared} {Q : VK} {us : List Value} {vs : List V} (F : FnOk X.prog X.w X.K X.mg X.base CX k f fd ps sp) (hr : Room k X.A) (hb : Binds X.K fd ps ds) (hd : Vals dvs ds) (hx : Passes CX X E)
   (I : Inv X pins σ H s) (r : Vals vs us) (h : sp (vs ++ dvs) H Q E) : wpAny (model X.prog X.w) X.A (call (.ref f) us) (EP X pins σ Q) X.xe s := by
 have r2 : Vals (vs ++ dvs) (us ++ ds) := r.append hd
 have hl : (us ++ ds).length = ps.length := by rw [← r2.length]; exact F.len _ _ _ _ h
 refine wpAny_call (codeAny_mono (F.run X.A X.stack s H ⟨us, []⟩ (us ++ ds) (vs ++ dvs) Q E hr I.env0 (hb s us I.kIn hl) r2 h) fun r s' hq => ?_)
 cases r with
 | error e => exact hx pins σ H s e s' I hq
 | ok fl =>
   cases fl with
   | ret u => exact I.after hq
   | next => exact False.elim hq
   | brk => exact False.elim hq
   | cont => exact False.elim hq
theorem pe_call (F : FnOk X.prog X.w X.K X.mg X.base CX k f fd ps sp) (hr : Room k X.A) (hg : Gl X x) (hm : X.mg x = some (.ref f)) (hk : PySem.W.keepIn X.K (.ref f) = true) (hb : Binds X.K fd ps ds) (hd : Vals dvs ds) (hx : Passes CX X E)
   (ha : PA X (e :: es) t) (hdb : (x == ("__debug__" : Str)) = false := by decide) (he : starEach (e :: es) X.env = (false, eval e X.env) :: starEach es X.env := by rfl) (hpl : (backTo pos (starEach es X.env)).any (·.1) = false := by rfl) :
   PE X (.Call (.Name x p) (e :: es) [] pos) (tCall sp dvs E t) := by
 intro pins s σ H Q I h
 refine wpAny_Call_Name_kw (ld_glob I hg hm ?_ hdb)
 refine PySem.W.callWith_K (h₀ := X.base) I.ok.mod.kin hk (thn (ha pos pins s σ H _ I h) fun us s1 ⟨vs, H1, I1, r, q⟩ => ⟨I1.kIn, ?_⟩) he hpl
 exact run_fn F hr hb hd hx I1 r q
theorem pe_call0 (F : FnOk X.prog X.w X.K X.mg X.base CX k f fd ps sp) (hr : Room k X.A) (hg : Gl X x) (hm : X.mg x = some (.ref f)) (hk : PySem.W.keepIn X.K (.ref f) = true) (hb : Binds X.K fd ps ds) (hd : Vals dvs ds) (hx : Passes CX X E)
   (hdb : (x == ("__debug__" : Str)) = false := by decide) : PE X (.Call (.Name x p) [] [] pos) (tCall sp dvs E tNil) := by
 intro pins s σ H Q I h
 refine wpAny_Call_Name_kw (ld_glob I hg hm ?_ hdb)
 exact PySem.W.callWith_K0 I.kIn hk (run_fn (us := []) F hr hb hd hx I .nil h)
theorem pe_meth {pl : Sem Bool} (he : PE X o ta) (c : Cls X.K C) (hm : Meth X.K C m f) (F : FnOk X.prog X.w X.K X.mg X.base CX k f fd ps sp) (hr : Room k X.A) (hb : Binds X.K fd ps ds) (hd : Vals dvs ds) (hx : Passes CX X E) (ha : PA X (e :: es) t)
   (hst : starEach (e :: es) X.env = (false, eval e X.env) :: starEach es X.env := by rfl) (hpl : (backTo pos (starEach es X.env)).any (·.1) = false := by rfl)
   (ht : eval (.Call (.Attribute o m apos) (e :: es) [] pos) X.env = (do
     let ov ← eval o X.env
     standAt apos.atName
     let (f, first) ← holding [ov] (getMethod ov m pl)
     callWith pos f first (backTo pos (starEach (e :: es) X.env)) (backToKw pos (keywordEach [] X.env))) := by rfl) :
   PE X (.Call (.Attribute o m apos) (e :: es) [] pos) (tMeth C m sp dvs E ta t) := by
 intro pins s σ H Q I h
 refine PySem.W.methodCall_KW (pl := pl) (thn (he pins s σ H _ I h) fun u s1 ⟨x, H1, I1, rx, a, dx, fs, ex, ea, l, q⟩ => ?_) ht
 subst ex
 obtain rfl : u = Value.ref a := rx
 refine getmeth_ok I1 ea c hm l ?_
 refine PySem.W.callWith_K (first := [.ref a]) (h₀ := X.base) I.ok.mod.kin hm.kp (thn (ha pos pins s1 σ H1 _ I1 q) fun us s2 ⟨vs, H2, I2, r, q2⟩ => ⟨I2.kIn, ?_⟩) hst hpl
 exact run_fn (us := .ref a :: us) (vs := .ref a :: vs) F hr hb hd hx I2 (.cons rfl r) q2
theorem pe_meth0 {pl : Sem Bool} (he : PE X o ta) (c : Cls X.K C) (hm : Meth X.K C m f) (F : FnOk X.prog X.w X.K X.mg X.base CX k f fd ps sp) (hr : Room k X.A) (hb : Binds X.K fd ps ds) (hd : Vals dvs ds) (hx : Passes CX X E)
   (ht : eval (.Call (.Attribute o m apos) [] [] pos) X.env = (do
     let ov ← eval o X.env
     standAt apos.atName
     let (f, first) ← holding [ov] (getMethod ov m pl)
     callWith pos f first (backTo pos (starEach [] X.env)) (backToKw pos (keywordEach [] X.env))) := by rfl) :
   PE X (.Call (.Attribute o m apos) [] [] pos) (tMeth C m sp dvs E ta tNil) := by
 intro pins s σ H Q I h
 refine PySem.W.methodCall_KW (pl := pl) (thn (he pins s σ H _ I h) fun u s1 ⟨x, H1, I1, rx, a, dx, fs, ex, ea, l, q⟩ => ?_) ht
 subst ex
 obtain rfl : u = Value.ref a := rx
 refine getmeth_ok I1 ea c hm l ?_
 exact PySem.W.callWith_K0 (first := [.ref a]) I1.kIn hm.kp (run_fn (us := [.ref a]) (vs := [.ref a]) F hr hb hd hx I1 (.cons rfl .nil) q)
structure Mk (K : PySem.W.Frag) (C f : Addr) : Prop where
 makes : PySem.W.makesIn K C = true
 init : PySem.W.findIn K (.ref C) "__init__" = some (some (.ref f))
 fn : PySem.W.isFn K (.ref f) = true
 kp : PySem.W.keepIn K (.ref C) = true
theorem run_make {pins : List (Addr × Obj)} {σ : St} {H : Hp} {s : Shared} {Q : VK} {us : List Value} {vs : List V} (M : Mk X.K C f) (F : FnOk X.prog X.w X.K X.mg X.base CX k f fd ps sp) (hr : Room (k + 1) X.A) (hb : Binds X.K fd ps ds) (hd : Vals dvs ds)
   (hx : Passes CX X E) (I : Inv X pins σ H s) (r : Vals vs us)
   (h : ∀ x dx, H x = none → H dx = none → dx ≠ x → sp (.ref x :: (vs ++ dvs)) (upd (upd H dx (.own x)) x (.ins C dx [])) (fun v H2 => v = .non ∧ Q (.ref x) H2) E) :
   wpAny (model X.prog X.w) X.A (call (.ref C) us) (EP X pins σ Q) X.xe s := by
 have hq := h (s.heap.objs.size + 1) s.heap.objs.size (I.hok.fresh (Nat.le_succ _)) (I.hok.fresh (Nat.le_refl _)) (Nat.ne_of_lt (Nat.lt_succ_self _))
 have I2 := Inv.made (C := C) I
 have r2 : Vals (V.ref (s.heap.objs.size + 1) :: (vs ++ dvs)) (Value.ref (s.heap.objs.size + 1) :: (us ++ ds)) := .cons rfl (r.append hd)
 have hl : (Value.ref (s.heap.objs.size + 1) :: us ++ ds).length = ps.length := by
   have e := r2.length
   rw [F.len _ _ _ _ hq] at e
   exact e.symm
 refine wpAny_call (make_map (f := f) I.kIn M.makes M.init (beq_iff_eq.mp M.fn) (codeAny_mono (F.run _ X.stack _ _ ⟨Value.ref (s.heap.objs.size + 1) :: us, []⟩ (Value.ref (s.heap.objs.size + 1) :: (us ++ ds)) _ _ E (hr.make C us [])
   (I2.env0.make C us []) (hb _ (Value.ref (s.heap.objs.size + 1) :: us) I2.kIn hl) r2 hq) fun r s' hq' => ?_))
 cases r with
 | error e => exact hx pins σ _ _ e s' I2 hq'
 | ok fl =>
   cases fl with
   | ret u =>
     obtain ⟨v, H', I3, rv, ev, q3⟩ := I2.after hq'
     subst ev
     exact ⟨rv, ⟨V.ref (s.heap.objs.size + 1), H', I3, rfl, q3⟩⟩
   | next => exact False.elim hq'
   | brk => exact False.elim hq'
   | cont => exact False.elim hq'
theorem pe_make (M : Mk X.K C f) (F : FnOk X.prog X.w X.K X.mg X.base CX k f fd ps sp) (hr : Room (k + 1) X.A) (hg : Gl X x) (hm : X.mg x = some (.ref C)) (hb : Binds X.K fd ps ds) (hd : Vals dvs ds) (hx : Passes CX X E)
   (ha : PA X (e :: es) t) (hdb : (x == ("__debug__" : Str)) = false := by decide) (he : starEach (e :: es) X.env = (false, eval e X.env) :: starEach es X.env := by rfl) (hpl : (backTo pos (starEach es X.env)).any (·.1) = false := by rfl) :
   PE X (.Call (.Name x p) (e :: es) [] pos) (tMake C sp dvs E t) := by
 intro pins s σ H Q I h
 refine wpAny_Call_Name_kw (ld_glob I hg hm ?_ hdb)
 refine PySem.W.callWith_K (h₀ := X.base) I.ok.mod.kin M.kp (thn (ha pos pins s σ H _ I h) fun us s1 ⟨vs, H1, I1, r, q⟩ => ⟨I1.kIn, ?_⟩) he hpl
 exact run_make M F hr hb hd hx I1 r q
theorem pe_make0 (M : Mk X.K C f) (F : FnOk X.prog X.w X.K X.mg X.base CX k f fd ps sp) (hr : Room (k + 1) X.A) (hg : Gl X x) (hm : X.mg x = some (.ref C)) (hb : Binds X.K fd ps ds) (hd : Vals dvs ds) (hx : Passes CX X E)
   (hdb : (x == ("__debug__" : Str)) = false := by decide) : PE X (.Call (.Name x p) [] [] pos) (tMake C sp dvs E tNil) := by
 intro pins s σ H Q I h
 refine wpAny_Call_Name_kw (ld_glob I hg hm ?_ hdb)
 exact PySem.W.callWith_K0 I.kIn M.kp (run_make (us := []) M F hr hb hd hx I .nil h)
end
structure FnScope (N P : List Str) (sc : Scope) : Prop where
 kind : sc.kind = .function
 co : sc.isCoroutine = false
 gen : sc.isGenerator = false
 nd : N.Nodup
 pre : N.take P.length = P
 par : ∀ x ∈ P, sc.names.lookup x = some .local ∨ sc.names.lookup x = some .cell
 nofree : ∀ y ∈ sc.names, y.2 ≠ .free
theorem bindL_out {kindOf : Str → Option NameKind} {x : Str} : ∀ {binds : List (Str × Value)} {m : Str → Option Value}, (∀ v, (x, v) ∉ binds) → bindL kindOf binds m x = m x
 | [], _, _ => rfl
 | (n, v) :: r, m, h => by
   unfold bindL
   rw [bindL_out fun w hw => h w (List.mem_cons_of_mem _ hw)]
   split
   · have : x ≠ n := by rintro rfl; exact h v List.mem_cons_self
     simp [this]
   · rfl
theorem bindC_out {kindOf : Str → Option NameKind} {x : Str} : ∀ {binds : List (Str × Value)} {m : Str → Option Value}, (∀ v, (x, v) ∉ binds) → bindC kindOf binds m x = m x
 | [], _, _ => rfl
 | (n, v) :: r, m, h => by
   unfold bindC
   rw [bindC_out fun w hw => h w (List.mem_cons_of_mem _ hw)]
   split
   · rfl
   · have : x ≠ n := by rintro rfl; exact h v List.mem_cons_self
     simp [this]
theorem bindL_get {kindOf : Str → Option NameKind} {x : Str} {v : Value} : ∀ {P : List Str} {vs : List Value} {i : Nat} {m : Str → Option Value}, P.Nodup → P[i]? = some x → vs[i]? = some v → kindOf x = some .local →
   bindL kindOf (P.zip vs) m x = some v
 | [], _, _, _, _, h, _, _ => by simp at h
 | _ :: _, [], _, _, _, _, h, _ => by simp at h
 | p :: P, w :: vs, 0, m, nd, h1, h2, hk => by
   simp at h1 h2; subst h1; subst h2
   show bindL kindOf ((p, w) :: P.zip vs) m p = _
   unfold bindL
   rw [bindL_out fun v hv => (List.nodup_cons.mp nd).1 (List.of_mem_zip hv).1, if_pos hk]
   simp
 | p :: P, w :: vs, i + 1, m, nd, h1, h2, hk => by
   show bindL kindOf ((p, w) :: P.zip vs) m x = _
   unfold bindL
   exact bindL_get (i := i) (List.nodup_cons.mp nd).2 (by simpa using h1) (by simpa using h2) hk
theorem bindC_get {kindOf : Str → Option NameKind} {x : Str} {v : Value} : ∀ {P : List Str} {vs : List Value} {i : Nat} {m : Str → Option Value}, P.Nodup → P[i]? = some x → vs[i]? = some v → kindOf x ≠ some .local →
   bindC kindOf (P.zip vs) m x = some v
 | [], _, _, _, _, h, _, _ => by simp at h
 | _ :: _, [], _, _, _, _, h, _ => by simp at h
 | p :: P, w :: vs, 0, m, nd, h1, h2, hk => by
   simp at h1 h2; subst h1; subst h2
   show bindC kindOf ((p, w) :: P.zip vs) m p = _
   unfold bindC
   rw [bindC_out fun v hv => (List.nodup_cons.mp nd).1 (List.of_mem_zip hv).1, if_neg hk]
   simp
 | p :: P, w :: vs, i + 1, m, nd, h1, h2, hk => by
   show bindC kindOf ((p, w) :: P.zip vs) m x = _
   unfold bindC
   exact bindC_get (i := i) (List.nodup_cons.mp nd).2 (by simpa using h1) (by simpa using h2) hk
def start (N : List Str) (vs : List V) : St := vs.map some ++ List.replicate (N.length - vs.length) none
def cxOf (CX : CXT) (P : Program) (w : World) (K : PySem.W.Frag) (mg : Str → Option Value) (base : Heap) (N : List Str) (qual : Str) (scope : Scope) (f : Addr) (cd : Value) (A : Around) (outer : List Env) (s : Shared) (H : Hp) (E : XK) : Cx where
 prog := P
 w := w
 K := K
 mg := mg
 base := base
 A := A.deeper (envOfC qual scope s.heap.objs.size f cd)
 N := N
 s_0 := s
 H_0 := H
 env := envOfC qual scope s.heap.objs.size f cd
 outer := outer
 stack := envOfC qual scope s.heap.objs.size f cd :: outer
 ex := []
 calm := true
 fn := fun _ => true
 pn := []
 xe := fun e s' => wpAny (model P w) (A.deeper (envOfC qual scope s.heap.objs.size f cd)) (leaving (envOfC qual scope s.heap.objs.size f cd) e) (fun _ s'' => CX outer H s E e s'') (fun e' s'' => CX outer H s E e' s'') s'
theorem cell_has {sc : Scope} {n : Nat} {x : Str} (h : sc.names.lookup x = some .cell) : ∃ c, (cellsFrom n sc.names []).lookup x = some c := by
 have q := PySem.W.cellsFrom_some sc.names n [] (.inl h)
 exact Option.isSome_iff_exists.mp q
theorem inv_start {CX : CXT} {P : Program} {w : World} {K : PySem.W.Frag} {mg : Str → Option Value} {base : Heap} {N ps : List Str} {qual : Str} {scope : Scope} {f : Addr} {cd : Value} {A : Around} {outer : List Env} {s s1 : Shared} {H : Hp} {E : XK} {us : List Value} {vs : List V}
   (S : FnScope N ps scope) (hd : A.handled = none) (e0 : Env0 P w K mg base A outer s H) (hl : vs.length = ps.length) (r : Vals vs us)
   (x : InCallC s s.heap.objs.size (bindL (envOfC qual scope s.heap.objs.size f cd).kindOf (ps.zip us) fun _ => none) (cellsFrom (s.heap.objs.size + 1) scope.names []) (bindC (envOfC qual scope s.heap.objs.size f cd).kindOf (ps.zip us) fun _ => none) s1) :
   Inv (cxOf CX P w K mg base N qual scope f cd A outer s H E) [] (start N vs) H s1 := by
 have hpl : ps.length ≤ N.length := by have := congrArg List.length S.pre; rw [List.length_take] at this; omega
 obtain ⟨h1, tk, rfl, hk⟩ := x.done
 have noA : ∀ b : Addr, b ∉ (cxOf CX P w K mg base N qual scope f cd A outer s H E).ex := fun b z => absurd (show b ∈ ([] : List Addr) from z) (by simp)
 refine ⟨⟨e0.mod, S.kind, rfl, rfl, Nat.le_refl _, fun y z c h1 h2 => ?_, fun y hy => ?_, fun y c _ h => ?_, fun _ => hd, Around.frames_deeper e0.frames, .inr ⟨rfl, rfl⟩, fun b z => absurd z (noA b), e0.bs, e0.bsz, fun b _ _ => noA b, fun b z => absurd z (noA b), e0.funs, e0.frf⟩,
   rfl, e0.bare, Un.kept hk, ⟨_, x.toInCall.ns, fun i y v h1 h2 h3 => ?_⟩, fun y c h => ⟨_, x.cell y c h⟩, e0.hok.fresh (Nat.le_refl _), fun y c h => ?_, fun p hp => absurd (show p ∈ ([] : List (Addr × Obj)) from hp) (by simp), e0.hok.kept hk, ?_⟩
 · exact name_of_addr x.apart (PySem.mem_of_lookup h1) (PySem.mem_of_lookup h2)
 · have hy : scope.names.lookup y = some .cell ∨ scope.names.lookup y = some .free := hy
   rcases hy with hy | hy
   · exact cell_has hy
   · exact absurd rfl (S.nofree _ (PySem.mem_of_lookup hy))
 · exact Nat.le_of_lt (x.above y c (PySem.mem_of_lookup h))
 · have hi : i < vs.length := by
     unfold start at h2
     by_cases hi : i < vs.length
     · exact hi
     · rw [List.getElem?_append_right (by simpa using hi)] at h2
       rw [List.getElem?_replicate] at h2
       split at h2 <;> cases h2
   have ha : vs[i]? = some v := by
     unfold start at h2
     rw [List.getElem?_append_left (by simpa using hi), List.getElem?_map] at h2
     cases e : vs[i]? with
     | none => rw [e] at h2; cases h2
     | some a => rw [e] at h2; cases h2; rfl
   obtain ⟨u, hu, rv⟩ := r.get ha
   have hp : ps[i]? = some y := by
     rw [← S.pre, List.getElem?_take_of_lt (by omega)]; exact h1
   have ndP : ps.Nodup := by rw [← S.pre]; exact S.nd.sublist (List.take_sublist _ _)
   refine ⟨u, rv, ?_⟩
   rcases S.par y (List.mem_of_getElem? hp) with k | k
   · exact .inl ⟨k, bindL_get ndP hp hu k⟩
   · obtain ⟨c, e⟩ := cell_has (n := s.heap.objs.size + 1) k
     refine .inr ⟨.inl k, c, e, ?_⟩
     have q := x.cell y c e
     rw [bindC_get ndP hp hu (by show scope.names.lookup y ≠ _; rw [k]; decide)] at q
     exact q
 · exact e0.hok.fresh (Nat.le_of_lt (x.above y c (PySem.mem_of_lookup h)))
 · unfold start
   show _ = N.length
   rw [List.length_append, List.length_map, List.length_replicate]
   omega
theorem fn_of {CX : CXT} {P : Program} {w : World} {K : PySem.W.Frag} {mg : Str → Option Value} {base : Heap} {k : Nat} {f : Addr} {name qual : Str} {params : Arguments} {body : List Stmt} {scope : Scope} {dV kV doc pm cdv ct oc : Value} {an od : Option Addr}
   {osl : Array (Option Value)} {N ps : List Str} {sp : Sp} (lk : K.lookup f = some ⟨oc, od, .func (PySem.W.fnOf name qual params body scope dV kV doc pm an cdv ct), osl⟩) (hcd : PySem.W.codeIn K cdv qual = true) (S : FnScope N ps scope)
   (len : ∀ vs H Q E, sp vs H Q E → vs.length = ps.length)
   (hbody : ∀ (A : Around) (outer : List Env) (s : Shared) (H : Hp) (vs : List V) (Q : VK) (E : XK), Room k (A.deeper (envOfC qual scope s.heap.objs.size f cdv)) → sp vs H Q E →
     ∃ t, PSs (cxOf CX P w K mg base N qual scope f cdv A outer s H E) body t ∧ t { nx := fun _ H' => Q .non H', rt := Q } (start N vs) H) :
   FnOk P w K mg base CX (k + 1) f (PySem.W.fnOf name qual params body scope dV kV doc pm an cdv ct) ps sp := by
 refine ⟨len, fun A outer s H args us vs Q E hr e0 hb r hsp => ?_⟩
 have hl := len _ _ _ _ hsp
 have KX : K.In s.heap := e0.mod.kin.keeps fun b o e => (e0.bs b o e).1
 have lim : s.heap.NoLimit := e0.mod.nolimit.keeps fun b o e => (e0.bs b o e).1
 have hkind : ∀ y ∈ ps.zip us, scope.names.lookup y.1 = some .local ∨ (scope.names.lookup y.1 = some .cell ∧ ((cellsFrom (s.heap.objs.size + 1) scope.names []).lookup y.1).isSome = true) := fun ⟨n, v⟩ hy => by
   rcases S.par n (List.of_mem_zip hy).1 with q | q
   · exact .inl q
   · exact .inr ⟨q, PySem.W.cellsFrom_some _ _ _ (.inl q)⟩
 refine codeAny_call_function hr.depth (KX _ _ lk) rfl S.co S.gen rfl (PySem.W.codeRec_of KX hcd) (hb _ _ _ _ ?_)
 refine wpAny_newFunctionEnv_cells S.kind hkind fun env he s1 x => ?_
 subst he
 refine ⟨lim.keeps x.toInCall.keep, codeAny_func ?_⟩
 obtain ⟨t, ht, hq⟩ := hbody A outer s H vs Q E (hr.deeper _) hsp
 have I : Inv (cxOf CX P w K mg base N qual scope f cdv A outer s H E) [] (start N vs) H s1 := inv_start S hr.hd e0 hl r x
 refine wpAny_mono (ht [] s1 (start N vs) H _ I hq) (fun fl s' hs => ?_) fun e s' hs => hs
 have fin : ∀ {σ' : St} {H' : Hp} {v : V} {u : Value}, Inv (cxOf CX P w K mg base N qual scope f cdv A outer s H E) [] σ' H' s' → RelV v u → Q v H' → CE outer P w H s Q u s' :=
   fun {σ' H' v u} J rv q => ⟨v, H', J.os, J.bare, J.base, J.hok, rv, q⟩
 cases fl with
 | ret u =>
   obtain ⟨v, σ', H', J, rv, q⟩ := hs
   exact fin J rv q
 | next =>
   obtain ⟨σ', H', J, q⟩ := hs
   exact fin (v := V.non) (u := Value.none) J rfl q
 | brk =>
   obtain ⟨_, _, _, q⟩ := hs
   exact False.elim q
 | cont =>
   obtain ⟨_, _, _, q⟩ := hs
   exact False.elim q
end L2
namespace L2
open PySem PySem.Spec PyProof.Rows
section
variable {X : Cx} {x : Str} {p pos : Pos} {e : Expr} {es : List Expr} {t : TA} {id T : String} {r : List V → Hp → VK → Prop}
def tCB (r : List V → Hp → VK → Prop) (t : TA) : TE := fun σ H Q => t σ H fun vs H1 => r vs H1 Q
theorem pe_callB (hc : CallR X (.builtin id) r) (hg : Gl X x) (hm : X.mg x = none) (hv : bootBuiltins x = some (.builtin id)) (ha : PA X (e :: es) t) (hn : x ≠ "__name__" := by decide) (hdb : (x == ("__debug__" : Str)) = false := by decide)
   (he : starEach (e :: es) X.env = (false, eval e X.env) :: starEach es X.env := by rfl) (hpl : (backTo pos (starEach es X.env)).any (·.1) = false := by rfl) : PE X (.Call (.Name x p) (e :: es) [] pos) (tCB r t) := by
 intro pins s σ H Q I h
 refine wpAny_Call_Name_kw (ld_blt I hg hm hv ?_ hn hdb)
 exact PyProof.Rows.callWith_builtin1 (thn (ha pos pins s σ H _ I h) fun us s1 ⟨vs, H1, I1, r1, q1⟩ => hc pins s1 σ H1 vs us Q I1 r1 q1) he hpl
theorem pe_callTy (hc : CallR X (.type T) r) (hg : Gl X x) (hm : X.mg x = none) (hv : bootBuiltins x = some (.type T)) (ha : PA X (e :: es) t) (hn : x ≠ "__name__" := by decide) (hdb : (x == ("__debug__" : Str)) = false := by decide)
   (he : starEach (e :: es) X.env = (false, eval e X.env) :: starEach es X.env := by rfl) (hpl : (backTo pos (starEach es X.env)).any (·.1) = false := by rfl) : PE X (.Call (.Name x p) (e :: es) [] pos) (tCB r t) := by
 intro pins s σ H Q I h
 refine wpAny_Call_Name_kw (ld_blt I hg hm hv ?_ hn hdb)
 exact PyProof.Rows.callWith_type1 (thn (ha pos pins s σ H _ I h) fun us s1 ⟨vs, H1, I1, r1, q1⟩ => hc pins s1 σ H1 vs us Q I1 r1 q1) he hpl
end
end L2
namespace HT
open PySem PyProof.Rows
section
variable {prog : Program} {w : World} {A : Around} {E : Value → Shared → Prop} {s : Shared}
def sIx (n d : Nat) : Option Int → Nat
 | none => d
 | some v => if v < 0 then (v + (n : Int)).toNat else min v.toNat n
theorem sIx_nat (n d k : Nat) : sIx n d (some (k : Int)) = min k n := by
 show (if (k : Int) < 0 then ((k : Int) + (n : Int)).toNat else min (k : Int).toNat n) = min k n
 rw [if_neg (by omega), Int.toNat_natCast]
end
end HT
namespace L2
open PySem PySem.Spec PyProof.Rows
abbrev TO := St → Hp → (Option Int → Hp → Prop) → Prop
def PO (X : Cx) (e : Option Expr) (t : TO) : Prop :=
 ∀ (pins : List (Addr × Obj)) (s : Shared) (σ : St) (H : Hp) (Q : Option Int → Hp → Prop), Inv X pins σ H s → t σ H Q →
   wpAny (model X.prog X.w) X.A (evalPart e X.env) (fun u s' => ∃ o H', Inv X pins σ H' s' ∧ IsPart u o ∧ Q o H') X.xe s
def tNoPart : TO := fun _ H Q => Q none H
def tPart (t : TE) : TO := fun σ H Q => t σ H fun x H1 => ∃ i, x = .int i ∧ Q (some i) H1
section
variable {X : Cx} {e : Expr} {te : TE} {lo hi : Option Expr} {tl th : TO} {pos p2 : Pos}
theorem po_none : PO X none tNoPart := by
 intro pins s σ H Q I h
 rw [evalPart_none]
 exact wpAny_pure ⟨none, H, I, .none, h⟩
theorem po_some (h : PE X e te) : PO X (some e) (tPart te) := by
 intro pins s σ H Q I hw
 rw [evalPart_some]
 refine thn (h pins s σ H _ I hw) fun u s1 ⟨x, H1, I1, r1, q1⟩ => ?_
 obtain ⟨i, rfl, q⟩ := q1
 obtain ⟨t, rfl⟩ := r1
 exact ⟨some i, H1, I1, .int i t, q⟩
def SlR (X : Cx) (r : V → Option Int → Option Int → Hp → VK → Prop) : Prop :=
 ∀ (pins : List (Addr × Obj)) (s : Shared) (σ : St) (H : Hp) (x : V) (v vl vu : Value) (lo hi : Option Int) (sl : Addr) (Q : VK), Inv X pins σ H s → RelV x v → s.heap.IsSliceOf sl vl vu .none → IsPart vl lo → IsPart vu hi → r x lo hi H Q →
   ∃ T id, typeLookup (.type T) "__getitem__" = pure (some (.builtin id)) ∧ s.TypeIs v T ∧ wpAny (model X.prog X.w) X.A (getItem v (.ref sl)) (EP X pins σ Q) X.xe s
def tSl (r : V → Option Int → Option Int → Hp → VK → Prop) (te : TE) (tl th : TO) : TE := fun σ H Q => te σ H fun x H1 => tl σ H1 fun l H2 => th σ H2 fun u H3 => r x l u H3 Q
theorem pe_slice {r : V → Option Int → Option Int → Hp → VK → Prop} (hr : SlR X r) (he : PE X e te) (hl : PO X lo tl) (hu : PO X hi th) : PE X (.Subscript e (.Slice lo hi none p2) pos) (tSl r te tl th) := by
 intro pins s σ H Q I h
 refine Subscript_ (thn (he pins s σ H _ I h) fun v s1 ⟨x, H1, I1, r1, q1⟩ => ?_)
 refine wpAny_Slice (thn (hl pins s1 σ H1 _ I1 q1) fun vl s2 ⟨l, H2, I2, pl, q2⟩ => thn (hu pins s2 σ H2 _ I2 q2) fun vu s3 ⟨u, H3, I3, pu, q3⟩ => ?_)
 rw [evalPart_none]
 refine wpAny_pure ?_
 have I4 : Inv X pins σ H3 { s3 with heap := s3.heap.push { cls := .type "slice", data := .fields #[vl, vu, .none] } } := I3.kept (t' := s3.toks) fun b ob q => Heap.get?_push_of_some _ q
 obtain ⟨T, id, hT, ht, hg⟩ := hr pins { s3 with heap := s3.heap.push { cls := .type "slice", data := .fields #[vl, vu, .none] } } σ H3 x v vl vu l u s3.heap.objs.size Q I4 r1 (Heap.IsSliceOf.new ..) pl pu q3
 show wpAny (model X.prog X.w) X.A (subscriptTail e (.Slice lo hi none p2) v (.ref s3.heap.objs.size)) (EP X pins σ Q) X.xe { s3 with heap := s3.heap.push { cls := .type "slice", data := .fields #[vl, vu, .none] } }
 exact tail_any (ops := [.ref s3.heap.objs.size, v]) ht hT hg (by with_unfolding_all rfl)
def cutV (xs : List V) (lo hi : Option Int) : List V := (xs.drop (HT.sIx xs.length 0 lo)).take (HT.sIx xs.length xs.length hi - HT.sIx xs.length 0 lo)
theorem cutV_length (xs : List V) (lo hi : Option Int) : (cutV xs lo hi).length ≤ xs.length := by
 unfold cutV
 rw [List.length_take, List.length_drop]
 omega
end
end L2
namespace L2
open PySem PySem.Spec PyProof.Rows
def ixN (n : Nat) (i : Int) : Option Nat := if 0 ≤ i then (if i < n then some i.toNat else none) else if -(n : Int) ≤ i then some (i + n).toNat else none
def atI {α : Type} (xs : List α) (i : Int) : Option α := (ixN xs.length i).bind fun j => xs[j]?
theorem ixN_seq {n : Nat} {i : Int} {j : Nat} (h : ixN n i = some j) : seqIndex? i n = some j ∧ j < n ∧ -(n : Int) ≤ i ∧ i < n := by
 unfold ixN at h
 by_cases h0 : 0 ≤ i
 · rw [if_pos h0] at h
   by_cases h1 : i < n
   · rw [if_pos h1] at h
     have e : i.toNat = j := Option.some.inj h
     exact ⟨by rw [seqIndex_of h0 h1, e], by omega, by omega, h1⟩
   · rw [if_neg h1] at h; cases h
 · rw [if_neg h0] at h
   by_cases h1 : -(n : Int) ≤ i
   · rw [if_pos h1] at h
     have e : (i + n).toNat = j := Option.some.inj h
     exact ⟨by rw [seqIndex_neg (by omega) h1, e], by omega, h1, by omega⟩
   · rw [if_neg h1] at h; cases h
theorem atI_get {α : Type} {xs : List α} {i : Int} {v : α} (h : atI xs i = some v) : ∃ j, seqIndex? i xs.length = some j ∧ xs[j]? = some v ∧ j < xs.length ∧ -(xs.length : Int) ≤ i ∧ i < xs.length := by
 unfold atI at h
 cases e : ixN xs.length i with
 | none => rw [e] at h; cases h
 | some j =>
   rw [e] at h
   obtain ⟨h1, h2, h3, h4⟩ := ixN_seq e
   exact ⟨j, h1, h, h2, h3, h4⟩
theorem atI_nat {α : Type} {xs : List α} {j : Nat} {v : α} (h : xs[j]? = some v) : atI xs (j : Int) = some v := by
 have hj : j < xs.length := (List.getElem?_eq_some_iff.mp h).1
 have e : ixN xs.length (j : Int) = some j := by
   unfold ixN
   rw [if_pos (by omega), if_pos (by omega)]; simp
 unfold atI; rw [e]; exact h
theorem atI_last {α : Type} (xs : List α) (v : α) : atI (xs ++ [v]) (-1) = some v := by
 have hl : (xs ++ [v]).length = xs.length + 1 := by simp
 have e : ixN (xs ++ [v]).length (-1) = some xs.length := by
   unfold ixN
   rw [hl, if_neg (by decide), if_pos (by omega)]
   congr 1
   omega
 unfold atI
 rw [e]
 show (xs ++ [v])[xs.length]? = some v
 simp
def PlainIx (b : Expr) : Prop := ∀ o i, subscripted b false o i = operate [o, i] (getItem o i)
def IxR (X : Cx) (r : R2) : Prop :=
 ∀ (value slice : Expr) (pins : List (Addr × Obj)) (s : Shared) (σ : St) (H : Hp) (x y : V) (v u : Value) (Q : VK), Inv X pins σ H s → RelV x v → RelV y u → r x y H Q →
   subscripted slice false v u = operate [v, u] (getItem v u) → wpAny (model X.prog X.w) X.A (subscriptTail value slice v u) (EP X pins σ Q) X.xe s
def MtR (X : Cx) (id : String) (r : V → List V → Hp → VK → Prop) : Prop :=
 ∀ (pins : List (Addr × Obj)) (s : Shared) (σ : St) (H : Hp) (x : V) (xs : List V) (v : Value) (us : List Value) (Q : VK), Inv X pins σ H s → RelV x v → Vals xs us → r x xs H Q →
   wpAny (model X.prog X.w) X.A (call (.builtin id) (v :: us)) (EP X pins σ Q) X.xe s
section
variable {X : Cx} {a b : Expr} {ta tb : TE} {pos : Pos}
theorem pe_ix {r : R2} (hr : IxR X r) (ha : PE X a ta) (hb : PE X b tb) (hs : PlainIx b) : PE X (.Subscript a b pos) (tOp r ta tb) := by
 intro pins s σ H Q I h
 exact Subscript_ (binT ha hb I h fun v u s2 x y H2 I2 rx ry q => hr a b pins s2 σ H2 x y v u Q I2 rx ry q (hs _ _))
def rIxL (K : PySem.W.Frag) : R2 := fun x y H Q => ∃ p xs i v, x = .ref p ∧ y = .int i ∧ SqL K H p xs ∧ atI xs i = some v ∧ Q v H
def rIxT (K : PySem.W.Frag) : R2 := fun x y H Q => ∃ p xs i v, x = .ref p ∧ y = .int i ∧ SqT K H p xs ∧ atI xs i = some v ∧ Q v H
theorem ix_list : IxR X (rIxL X.K) := by
 intro value slice pins s σ H x y v u Q I rx ry h hs
 obtain ⟨p, xs, i, z, rfl, rfl, hq, he, q⟩ := h
 cases rx
 obtain ⟨t, rfl⟩ := ry
 obtain ⟨its, r, pl, hz⟩ := I.list hq
 obtain ⟨j, h1, h2, h3, h4, h5⟩ := atI_get he
 obtain ⟨w, ew, rw'⟩ := r.get h2
 have hl := r.length
 have hn := line63
 have fin : EP X pins σ Q w s := ⟨z, H, I, rw', q⟩
 by_cases h0 : 0 ≤ i
 · have hj : i.toNat = j := by
     rw [seqIndex_of h0 h5] at h1
     exact Option.some.inj h1
   exact item_listR pl.isList h0 (by omega) (by rw [hj]; simpa using ew) fin hs
 · have hj : (i + (its.toArray.size : Int)).toNat = j := by
     rw [seqIndex_neg (by omega) h4] at h1
     rw [List.size_toArray, ← hl]
     exact Option.some.inj h1
   exact subscriptTail_builtinR (x := w) pl.isList.typeIs slot_list_getitem.lookup
     (wpAny_getItem_list_neg (Q := fun r s' => r = w ∧ EP X pins σ Q r s') pl.isList (by omega) (by rw [List.size_toArray] <;> omega) (by omega) (by rw [hj]; simpa using ew) ⟨rfl, fin⟩) hs
theorem ix_tup : IxR X (rIxT X.K) := by
 intro value slice pins s σ H x y v u Q I rx ry h hs
 obtain ⟨p, xs, i, z, rfl, rfl, hq, he, q⟩ := h
 cases rx
 obtain ⟨t, rfl⟩ := ry
 obtain ⟨its, r, pl, hz⟩ := I.tuple hq
 obtain ⟨j, h1, h2, h3, h4, h5⟩ := atI_get he
 obtain ⟨w, ew, rw'⟩ := r.get h2
 have hl := r.length
 have hn := line63
 have fin : EP X pins σ Q w s := ⟨z, H, I, rw', q⟩
 exact subscriptTail_builtinR (x := w) pl.typeIs slot_tuple_getitem.lookup
   (getItem_tuple (j := j) (Q := fun r s' => r = w ∧ EP X pins σ Q r s') pl (by omega) (by omega) (by rw [List.size_toArray, ← hl]; exact h1) (by simpa using ew) ⟨rfl, fin⟩) hs
theorem mapSeq_set (its : List Value) (n j : Nat) (u : Value) : Obj.mapSeq (·.setIfInBounds j u) { cls := .type "list", data := .seq its.toArray n } = { cls := .type "list", data := .seq (its.set j u).toArray n } := by
 simp [Obj.mapSeq]
theorem Inv.lst {pins : List (Addr × Obj)} {σ : St} {H : Hp} {s : Shared} {p : Addr} {xs : List V} (I : Inv X pins σ H s) (h : H p = some (.lst xs)) :
   ∃ (its : List Value) (n : Nat), Vals xs its ∧ s.heap.get? p = some { cls := .type "list", data := .seq its.toArray n } ∧ xs.length ≤ sizeLine := by
 obtain ⟨z, its, n, r, e⟩ := I.hok p _ h
 exact ⟨its, n, r, e, z⟩
theorem Inv.lstUpd {pins : List (Addr × Obj)} {σ : St} {H : Hp} {s : Shared} {p : Addr} {xs ys : List V} {its its' : List Value} {n n' : Nat} {f : Obj → Obj} (I : Inv X pins σ H s) (h : H p = some (.lst xs))
   (ho : s.heap.get? p = some { cls := .type "list", data := .seq its.toArray n }) (hf : f { cls := .type "list", data := .seq its.toArray n } = { cls := .type "list", data := .seq its'.toArray n' }) (r : Vals ys its') (hz : ys.length ≤ sizeLine) (t : Nat) :
   Inv X pins σ (upd H p (.lst ys)) { s with heap := s.heap.update p f, toks := t } := by
 have e : (s.heap.update p f).get? p = some { cls := .type "list", data := .seq its'.toArray n' } := by
   rw [Heap.get?_update_self f ho (by rw [hf] <;> rfl), hf]
 refine I.write (x := p) (e := p) (by rw [h]; trivial) (.inl rfl) (fun b u hb q => (Heap.get?_update_other _ _ (Ne.symm hb)).trans q) ⟨_, e⟩ ?_
 exact ⟨hz, its', n', r, e⟩
def rSetL : V → V → V → Hp → (Hp → Prop) → Prop := fun o i v H Q => ∃ p xs k j, o = .ref p ∧ i = .int k ∧ H p = some (.lst xs) ∧ ixN xs.length k = some j ∧ Q (upd H p (.lst (xs.set j v)))
theorem set_list : PSet X rSetL := by
 intro pins s σ H o i v ov iv u Q I ro ri rv h
 obtain ⟨p, xs, k, j, rfl, rfl, hp, hj, q⟩ := h
 cases ro
 obtain ⟨t, rfl⟩ := ri
 obtain ⟨its, n, r, ho, hz⟩ := I.lst hp
 obtain ⟨h1, h2, h3, h4⟩ := ixN_seq hj
 have hl := r.length
 have hn := line63
 have I' : Inv X pins σ (upd H p (.lst (xs.set j v))) { s with heap := s.heap.update p (Obj.mapSeq (·.setIfInBounds j u)) } :=
   I.lstUpd hp ho (mapSeq_set its n j u) (r.set rv j) (by rw [List.length_set]; exact hz) s.toks
 by_cases h0 : 0 ≤ k
 · have hk : k.toNat = j := by
     rw [seqIndex_of h0 h4] at h1
     exact Option.some.inj h1
   exact PySem.W.ki_setAt ho h0 (by omega) (by rw [List.size_toArray, ← hl]; exact h4) (by rw [hk]; exact ⟨_, I', q⟩)
 · have hk : (k + (its.toArray.size : Int)).toNat = j := by
     rw [seqIndex_neg (by omega) h3] at h1
     rw [List.size_toArray, ← hl]
     exact Option.some.inj h1
   exact PySem.W.ki_setBack ho (by omega) (by rw [List.size_toArray, ← hl]; exact h3) (by omega) (by rw [hk]; exact ⟨_, I', q⟩)
theorem slice_bounds (lo hi : Option Int) (n : Nat) : (sliceBounds lo hi none n).1 = ((HT.sIx n 0 lo : Nat) : Int) ∧ (sliceBounds lo hi none n).2.1 = ((HT.sIx n n hi : Nat) : Int) ∧ (sliceBounds lo hi none n).2.2 = 1 := by
 refine ⟨?_, ?_, rfl⟩
 · cases lo with
   | none => simp [sliceBounds, HT.sIx]
   | some i =>
     simp only [sliceBounds, HT.sIx, Option.getD_none, show (1 : Int) > 0 by decide, if_true]
     by_cases h : i < 0
     · simp only [h, if_true] <;> omega
     · simp only [h, if_false] <;> omega
 · cases hi with
   | none => simp [sliceBounds, HT.sIx]
   | some i =>
     simp only [sliceBounds, HT.sIx, Option.getD_none, show (1 : Int) > 0 by decide, if_true]
     by_cases h : i < 0
     · simp only [h, if_true] <;> omega
     · simp only [h, if_false] <;> omega
theorem slicePick_cut (its : List Value) (lo hi : Option Int) : slicePick its.toArray lo hi none = ((its.drop (HT.sIx its.length 0 lo)).take (HT.sIx its.length its.length hi - HT.sIx its.length 0 lo)).toArray := by
 obtain ⟨h1, h2, h3⟩ := slice_bounds lo hi its.toArray.size
 unfold slicePick
 rw [h1, h2, h3]
 simp only [sliceRange_one, pick_run, List.size_toArray] <;> rfl
def rSlL (K : PySem.W.Frag) : V → Option Int → Option Int → Hp → VK → Prop := fun x lo hi H Q => ∃ a xs, x = .ref a ∧ SqL K H a xs ∧ ∀ p, H p = none → Q (.ref p) (upd H p (.lst (cutV xs lo hi)))
theorem sl_list : SlR X (rSlL X.K) := by
 intro pins s σ H x v vl vu lo hi sl Q I rx hs pl pu h
 obtain ⟨a, xs, rfl, hx, q⟩ := h
 cases rx
 obtain ⟨its, r, ht, hz⟩ := I.list hx
 have hlen := r.length
 refine ⟨"list", _, slot_list_getitem.lookup, ht.isList.typeIs, ?_⟩
 refine wpAny_getItem_list_slice ht.isList hs pl pu .none (by simp) ?_ (by rw [List.size_toArray] <;> omega)
 rw [slicePick_cut, ← hlen]
 refine ⟨.ref s.heap.objs.size, _, I.laid (t' := s.toks) (o := .lst (cutV xs lo hi)) (fun b ob q => Heap.get?_push_of_some _ q) (Nat.le_refl _) ?_, rfl, q _ (I.hok.fresh (Nat.le_refl _))⟩
 exact ⟨Nat.le_trans (cutV_length xs lo hi) hz, _, 0, (r.drop (HT.sIx xs.length 0 lo)).take (HT.sIx xs.length xs.length hi - HT.sIx xs.length 0 lo), Heap.get?_push_size _ rfl⟩
def flatV : V → Bool
 | .non => true
 | .bl _ => true
 | .int _ => true
 | .str _ => true
 | _ => false
def eqV : V → V → Bool
 | .non, .non => true
 | .bl a, .bl b => a == b
 | .bl a, .int b => (if a then 1 else 0) == b
 | .int a, .bl b => a == (if b then 1 else 0)
 | .int a, .int b => a == b
 | .str a, .str b => a == b
 | _, _ => false
theorem eqAt_V {A : Around} {s : Shared} {y x : V} {u v : Value} (ry : RelV y u) (rx : RelV x v) (fy : flatV y = true) (fx : flatV x = true) : SeqAt.EqAt A s u v (eqV y x) := by
 cases y with
 | non =>
   cases ry
   cases x with
   | non => cases rx; exact SeqAt.EqAt.same _
   | bl b => cases rx; exact SeqAt.EqAt.none_bool b
   | int b => obtain ⟨t, rfl⟩ := rx; exact SeqAt.EqAt.none_int b t
   | str b => obtain ⟨t, rfl⟩ := rx; exact SeqAt.EqAt.none_str b t
   | _ => exact absurd (show false = true from fx) Bool.false_ne_true
 | bl a =>
   cases ry
   cases x with
   | non => cases rx; exact SeqAt.EqAt.bool_none a
   | bl b => cases rx; exact SeqAt.EqAt.bool_bool a b
   | int b => obtain ⟨t, rfl⟩ := rx; exact SeqAt.EqAt.bool_int a b t
   | str b => obtain ⟨t, rfl⟩ := rx; exact SeqAt.EqAt.bool_str a b t
   | _ => exact absurd (show false = true from fx) Bool.false_ne_true
 | int a =>
   obtain ⟨t', rfl⟩ := ry
   cases x with
   | non => cases rx; exact SeqAt.EqAt.int_none a t'
   | bl b => cases rx; exact SeqAt.EqAt.int_bool a t' b
   | int b => obtain ⟨t, rfl⟩ := rx; exact SeqAt.EqAt.int_int a t' b t
   | str b => obtain ⟨t, rfl⟩ := rx; exact SeqAt.EqAt.int_str a t' b t
   | _ => exact absurd (show false = true from fx) Bool.false_ne_true
 | str a =>
   obtain ⟨t', rfl⟩ := ry
   cases x with
   | non => cases rx; exact SeqAt.EqAt.str_none a t'
   | bl b => cases rx; exact SeqAt.EqAt.str_bool a t' b
   | int b => obtain ⟨t, rfl⟩ := rx; exact SeqAt.EqAt.str_int a t' b t
   | str b => obtain ⟨t, rfl⟩ := rx; exact SeqAt.EqAt.str_str a t' b t
   | _ => exact absurd (show false = true from fx) Bool.false_ne_true
 | _ => exact absurd (show false = true from fy) Bool.false_ne_true
def eqU (x : V) (u : Value) : Bool := match u with
 | .none => eqV .non x
 | .bool b => eqV (.bl b) x
 | .int i _ => eqV (.int i) x
 | .str z _ => eqV (.str z) x
 | _ => false
theorem eqU_of {x y : V} {u : Value} (r : RelV y u) (f : flatV y = true) : eqU x u = eqV y x := by
 cases y with
 | non => cases r; rfl
 | bl b => cases r; rfl
 | int i => obtain ⟨t, rfl⟩ := r; rfl
 | str z => obtain ⟨t, rfl⟩ := r; rfl
 | _ => exact absurd (show false = true from f) Bool.false_ne_true
theorem any_eqU {x : V} : ∀ {xs : List V} {us : List Value}, Vals xs us → xs.all flatV = true → us.any (eqU x) = xs.any fun y => eqV y x
 | _, _, .nil, _ => rfl
 | y :: xs, u :: us, .cons r t, f => by
   rw [List.all_cons, Bool.and_eq_true] at f
   rw [List.any_cons, List.any_cons, eqU_of r f.1, any_eqU t f.2]
theorem mem_eqAt {A : Around} {s : Shared} {x : V} {v : Value} (rx : RelV x v) (fx : flatV x = true) : ∀ {xs : List V} {us : List Value}, Vals xs us → xs.all flatV = true → ∀ u ∈ us, SeqAt.EqAt A s u v (eqU x u)
 | _, _, .nil, _ => fun u hu => by cases hu
 | y :: xs, u :: us, .cons r t, f => fun u' hu => by
   rw [List.all_cons, Bool.and_eq_true] at f
   rcases List.mem_cons.mp hu with rfl | hu
   · rw [eqU_of r f.1]; exact eqAt_V r rx f.1 fx
   · exact mem_eqAt rx fx t f.2 u' hu
def inV (x : V) (xs : List V) : Bool := xs.any fun y => eqV y x
def rIn (K : PySem.W.Frag) (neg : Bool) : R2 := fun x y H Q => ∃ p xs, y = .ref p ∧ (SqL K H p xs ∨ SqT K H p xs) ∧ flatV x = true ∧ xs.all flatV = true ∧ Q (.bl (if neg then !inV x xs else inV x xs)) H
theorem op_in_seq : OpR X (compareOp .In) (rIn X.K false) := by
 intro pins s σ H x y v u Q I rx ry h
 obtain ⟨p, xs, rfl, hq, fx, fs, q⟩ := h
 cases ry
 rcases hq with hq | hq
 · obtain ⟨its, r, pl, hz⟩ := I.list hq
   refine SeqAt.in_listAt (eqU x) pl.isList (fun w hw => mem_eqAt rx fx r fs w (by simpa using hw)) ⟨.bl _, H, I, rfl, ?_⟩
   rw [show its.toArray.any (eqU x) = its.any (eqU x) by simp, any_eqU r fs]
   exact q
 · obtain ⟨its, r, pl, hz⟩ := I.tuple hq
   refine SeqAt.in_tupleAt (eqU x) pl (fun w hw => mem_eqAt rx fx r fs w (by simpa using hw)) ⟨.bl _, H, I, rfl, ?_⟩
   rw [show its.toArray.any (eqU x) = its.any (eqU x) by simp, any_eqU r fs]
   exact q
theorem call_len_seq : CallR X (.builtin "len") (fun xs H Q => ∃ p ys, xs = [.ref p] ∧ (SqL X.K H p ys ∨ SqT X.K H p ys) ∧ Q (.int ys.length) H) := by
 intro pins s σ H xs us Q I r h
 obtain ⟨p, ys, rfl, hq, q⟩ := h
 obtain ⟨u, rfl, rx⟩ := vals1 r
 cases rx
 have hn := line63
 rcases hq with hq | hq
 · obtain ⟨its, r', pl, hz⟩ := I.list hq
   have hlen := r'.length
   exact Calls.call_len_list pl.isList (by simp only [List.size_toArray] <;> omega) ⟨.int ys.length, H, I.tok _, ⟨s.toks + 1, by rw [List.size_toArray, hlen]⟩, q⟩
 · obtain ⟨its, r', pl, hz⟩ := I.tuple hq
   have hlen := r'.length
   exact len_tuple pl (by simp only [List.size_toArray] <;> omega) ⟨.int ys.length, H, I.tok _, ⟨s.toks + 1, by rw [List.size_toArray, hlen]⟩, q⟩
theorem call_tuple_of : CallR X (.type "tuple") (fun xs H Q => ∃ p ys, xs = [.ref p] ∧ ((SqL X.K H p ys ∧ ∀ l, H l = none → Q (.ref l) (upd H l (.tup ys))) ∨ (SqT X.K H p ys ∧ Q (.ref p) H))) := by
 intro pins s σ H xs us Q I r h
 obtain ⟨p, ys, rfl, h⟩ := h
 obtain ⟨u, rfl, rx⟩ := vals1 r
 cases rx
 rcases h with ⟨hq, q⟩ | ⟨hq, q⟩
 · obtain ⟨its, r', pl, hz⟩ := I.list hq
   have hlen := r'.length
   refine call_tuple_list pl.isList (fun h' kp => ?_) (by simp only [List.size_toArray] <;> omega)
   have I1 : Inv X pins σ H { s with heap := h' } := I.kept (t' := s.toks) kp
   have I2 : Inv X pins σ (upd H h'.objs.size (.tup ys)) { s with heap := h'.push { cls := .type "tuple", data := .seq its.toArray } } :=
     I1.laid (t' := s.toks) (fun b o e => Heap.get?_push_of_some _ e) (Nat.le_refl _) (show ObjOk X.prog X.w _ _ _ (.tup ys) from ⟨hz, its, r', IsTup.new _ _⟩)
   exact ⟨.ref h'.objs.size, _, I2, rfl, q _ (I1.hok.fresh (Nat.le_refl _))⟩
 · obtain ⟨its, r', pl, hz⟩ := I.tuple hq
   exact call_tuple_same pl ⟨.ref p, H, I, rfl, q⟩
def tyV (K : PySem.W.Frag) (T : String) (x : V) (H : Hp) : Prop := match x with
 | .str _ => T = "str"
 | .int _ => T = "int"
 | .ref p => (T = "list" ∧ ∃ xs, SqL K H p xs) ∨ (T = "tuple" ∧ ∃ o, K.lookup p = some o ∧ o.cls = .type "tuple" ∧ o.dict = none) ∨
     (T = "dict" ∧ ((∃ kvs, H p = some (.dK kvs)) ∨ ∃ kvs, H p = some (.dT kvs))) ∨ (T = "set" ∧ ∃ S n, H p = some (.set S n))
 | _ => False
theorem tyV_is {pins : List (Addr × Obj)} {σ : St} {H : Hp} {s : Shared} {T : String} {x : V} {v : Value} (I : Inv X pins σ H s) (r : RelV x v) (ty : tyV X.K T x H) :
   s.TypeIs v T ∧ ∀ a, v = .ref a → ∃ ob, s.heap.get? a = some ob ∧ ob.dict = none := by
 cases x with
 | str z =>
   obtain ⟨t, rfl⟩ := r
   cases (show T = "str" from ty)
   exact ⟨typeIs_str s z t, fun _ e => nomatch e⟩
 | int i =>
   obtain ⟨t, rfl⟩ := r
   cases (show T = "int" from ty)
   exact ⟨typeIs_int s i t, fun _ e => nomatch e⟩
 | ref p =>
   cases r
   rcases ty with ⟨rfl, xs, hq⟩ | ⟨rfl, o, hk, hc, hd⟩ | ⟨rfl, hk⟩ | ⟨rfl, S, n, hk⟩
   · obtain ⟨its, _, pl, _⟩ := I.list hq
     refine ⟨pl.isList.typeIs, fun a e => ?_⟩
     cases e
     obtain ⟨o, n, e, c, hd, _⟩ := pl
     exact ⟨o, e, hd⟩
   · refine ⟨⟨o, I.kIn p o hk, hc⟩, fun a e => ?_⟩
     cases e
     exact ⟨o, I.kIn _ o hk, hd⟩
   · have z : ∃ o, s.heap.get? p = some o ∧ o.ExactDict := by
       rcases hk with ⟨kvs, hk⟩ | ⟨kvs, hk⟩
       · obtain ⟨_, _, _, _, o, _, _, e, ex, _⟩ := I.hok p _ hk
         exact ⟨o, e, ex⟩
       · obtain ⟨_, _, _, _, o, _, _, e, ex, _⟩ := I.hok p _ hk
         exact ⟨o, e, ex⟩
     obtain ⟨o, e, ex⟩ := z
     refine ⟨⟨o, e, ex.1⟩, fun a e2 => ?_⟩
     cases e2
     exact ⟨o, e, ex.2.1⟩
   · obtain ⟨o, _, _, _, e, ex, _⟩ := I.hok p _ hk
     refine ⟨⟨o, e, ex.1⟩, fun a e2 => ?_⟩
     cases e2
     exact ⟨o, e, ex.2.1⟩
 | _ => exact False.elim ty
def tBM (K : PySem.W.Frag) (T : String) (r : V → List V → Hp → VK → Prop) (to : TE) (t : TA) : TE := fun σ H Q => to σ H fun x H1 => tyV K T x H1 ∧ t σ H1 fun xs H2 => r x xs H2 Q
variable {o e : Expr} {es : List Expr} {to : TE} {t : TA} {name : Str} {apos cpos : Pos} {T id : String} {r : V → List V → Hp → VK → Prop}
theorem pe_bm (pa : PlainAttrs T) (slot : Slot T name id) (hty : typeOf (.builtin id) = pure (.type "method_descriptor")) (hm : MtR X id r) (ho : PE X o to) (ha : PA X (e :: es) t)
   (hbase : attributeBase o name X.env (eval o X.env) = eval o X.env := by rfl)
   (hfew : ((backTo cpos (starEach (e :: es) X.env)).all (fun x => !x.1) && (backToKw cpos (keywordEach [] X.env)).all (fun x => x.1.isSome)
     && decide ((e :: es).length + ([] : List Keyword).length + (if ([] : List Keyword).isEmpty then 0 else 1) < 30)) = true := by rfl)
   (hline : (apos.endLine == cpos.line) = true := by rfl) (hs : starEach (e :: es) X.env = (false, eval e X.env) :: starEach es X.env := by rfl) (hplain : (backTo cpos (starEach es X.env)).any (·.1) = false := by rfl) :
   PE X (.Call (.Attribute o name apos) (e :: es) [] cpos) (tBM X.K T r to t) := by
 intro pins s σ H Q I h
 refine wpAny_Call_method_late hbase hfew hline rfl (thn (ho pins s σ H _ I h) fun v s1 ⟨x, H1, I1, r1, ty, q1⟩ => ?_)
 obtain ⟨h1, h2⟩ := tyV_is I1 r1 ty
 refine ⟨T, id, pa, slot, hty, h1, h2, ?_⟩
 have hA := ha cpos pins s1 σ H1 _ I1 q1
 rw [hs] at hA ⊢
 refine Calls.callWith_builtin (by show (false || (backTo cpos (starEach es X.env)).any (·.1)) = false; rw [hplain] <;> rfl) (Calls.evalArgs_plain ?_)
 exact thn hA fun us s2 ⟨vs, H2, I2, r2, q2⟩ => hm pins s2 σ H2 x vs v us Q I2 r1 r2 q2
/- xs.append(e), list.index on a module's tuple .. are MtR facts of 06m -/
end
end L2
namespace L2
open PySem PySem.Spec PyProof.Rows
def MtM (X : Cx) (id : String) (r : V → List V → Hp → VK → Prop) : Prop :=
 ∀ (pins : List (Addr × Obj)) (s : Shared) (σ : St) (H : Hp) (x : V) (xs : List V) (v : Value) (us : List Value) (Q : VK), Inv X pins σ H s → RelV x v → Vals xs us → r x xs H Q →
   wpAny (model X.prog X.w) X.A (call (.builtin id) (v :: us)) (EP X pins σ Q) X.xe s
theorem Vals.one : ∀ {x : V} {us : List Value}, Vals [x] us → ∃ u, us = [u] ∧ RelV x u
 | _, _, .cons r .nil => ⟨_, rfl, r⟩
section
variable {X : Cx} {pins : List (Addr × Obj)} {σ : St} {H : Hp} {s : Shared} {l b : Addr} {xs ys zs : List V}
theorem Inv.lset {its its' : List Value} {n : Nat} {f : Array Value → Array Value} {t' : Nat} (I : Inv X pins σ H s) (hH : H l = some (.lst xs))
   (e : s.heap.get? l = some { cls := .type "list", data := .seq its.toArray n }) (hf : f its.toArray = its'.toArray) (hv : Vals ys its') (hz : ys.length ≤ sizeLine) :
   Inv X pins σ (upd H l (.lst ys)) { s with heap := s.heap.update l (Obj.mapSeq f), toks := t' } := by
 have q := PySem.IsL.update e f
 rw [hf] at q
 refine I.write (x := l) (e := l) (by rw [hH]; exact trivial) (.inl rfl) (fun b' u hb hu => (Heap.get?_update_other s.heap (Obj.mapSeq f) (Ne.symm hb)).trans hu) ⟨_, q⟩ ?_
 exact ⟨hz, its', _, hv, q⟩
theorem Inv.lnew {its : List Value} {t' : Nat} (I : Inv X pins σ H s) (hv : Vals ys its) (hz : ys.length ≤ sizeLine) :
   Inv X pins σ (upd H s.heap.objs.size (.lst ys)) { s with heap := s.heap.push { cls := .type "list", data := .seq its.toArray }, toks := t' } :=
 I.laid (fun _ _ q => Heap.get?_push_of_some _ q) (Nat.le_refl _) ⟨hz, its, 0, hv, Heap.get?_push_size _ rfl⟩
theorem Inv.fresh (I : Inv X pins σ H s) : H s.heap.objs.size = none := I.hok.fresh (Nat.le_refl _)
theorem Inv.lstM (I : Inv X pins σ H s) (hH : H l = some (.lst xs)) : xs.length ≤ sizeLine ∧ ∃ (its : List Value) (n : Nat), Vals xs its ∧ xs.length = its.length ∧ s.heap.get? l = some { cls := .type "list", data := .seq its.toArray n } := by
 obtain ⟨z, its, n, r, e⟩ := I.hok l _ hH
 exact ⟨z, its, n, r, r.length, e⟩
theorem notLongL {n : Nat} (h : n ≤ sizeLine) : Builtin.List.listTooLong n = false := by
 unfold Builtin.List.listTooLong
 exact decide_eq_false (by omega)
end
section
variable {X : Cx}
def rAppend : V → List V → Hp → VK → Prop := fun x vs H Q => ∃ l xs y, x = .ref l ∧ vs = [y] ∧ H l = some (.lst xs) ∧ xs.length < sizeLine ∧ Q .non (upd H l (.lst (xs ++ [y])))
theorem mt_append : MtM X "list.append" rAppend := by
 intro pins s σ H x vs v us Q I rx rv h
 obtain ⟨l, xs, y, rfl, rfl, hH, hz, q⟩ := h
 cases rx
 obtain ⟨u, rfl, ru⟩ := rv.one
 obtain ⟨z, its, n, r, hl, e⟩ := I.lstM hH
 refine call_meets F.slot_list_append ⟨_, e, rfl⟩ F.entry_list_append (F.args_list_append_2 _ _) (PySem.list_append l its.toArray n u (by rw [List.size_toArray]; omega)) ⟨e, ?_⟩
 refine ⟨.non, _, I.lset (its' := its ++ [u]) hH e (by simp) (r.append (.cons ru .nil)) ?_, rfl, q⟩
 rw [List.length_append, List.length_singleton]
 omega
def rExtend : V → List V → Hp → VK → Prop := fun x vs H Q => ∃ l b xs zs, x = .ref l ∧ vs = [.ref b] ∧ H l = some (.lst xs) ∧ H b = some (.lst zs) ∧ xs.length + zs.length ≤ sizeLine ∧ Q .non (upd H l (.lst (xs ++ zs)))
theorem mt_extend : MtM X "list.extend" rExtend := by
 intro pins s σ H x vs v us Q I rx rv h
 obtain ⟨l, b, xs, zs, rfl, rfl, hH, hB, hz, q⟩ := h
 cases rx
 obtain ⟨u, rfl, ru⟩ := rv.one
 cases ru
 obtain ⟨z, its, n, r, hl, e⟩ := I.lstM hH
 obtain ⟨z2, its2, n2, r2, hl2, e2⟩ := I.lstM hB
 have hsz : its.toArray.size + its2.toArray.size ≤ sizeLine := by rw [List.size_toArray, List.size_toArray]; omega
 have hlong : ¬ (!its.toArray.isEmpty && Builtin.List.listTooLong (its.toArray.size + its2.toArray.size)) = true := by
   rw [notLongL hsz, Bool.and_false]
   exact Bool.false_ne_true
 refine call_meets F.slot_list_extend ⟨_, e, rfl⟩ F.entry_list_extend (F.args_list_extend_2 _ _)
   (AutoSeq1.list_extend_list_list_0 l its.toArray n b its2.toArray n2 hlong (by rw [List.size_toArray]; omega) (by omega)) ⟨e, e2, ?_⟩
 refine ⟨.non, _, I.lset (its' := its ++ its2) hH e (by simp) (r.append r2) ?_, rfl, q⟩
 rw [List.length_append]
 omega
def rCat : R2 := fun x y H Q => ∃ l b xs zs, x = .ref l ∧ y = .ref b ∧ H l = some (.lst xs) ∧ H b = some (.lst zs) ∧ xs.length + zs.length ≤ sizeLine ∧ ∀ p, H p = none → Q (.ref p) (upd H p (.lst (xs ++ zs)))
theorem op_cat : OpR X (binaryOp .Add) rCat := by
 intro pins s σ H x y v u Q I rx ry h
 obtain ⟨l, b, xs, zs, rfl, rfl, hH, hB, hz, q⟩ := h
 cases rx
 cases ry
 obtain ⟨z, its, n, r, hl, e⟩ := I.lstM hH
 obtain ⟨z2, its2, n2, r2, hl2, e2⟩ := I.lstM hB
 refine PySem.P.add_list e e2 ?_ (by rw [List.size_toArray, List.size_toArray]; omega)
 have ea : its.toArray ++ its2.toArray = (its ++ its2).toArray := by simp
 rw [ea]
 exact ⟨.ref _, _, I.lnew (t' := s.toks) (r.append r2) (by rw [List.length_append]; omega), rfl, q _ I.fresh⟩
end
end L2
namespace L2
open PySem PySem.Spec PyProof.Rows
theorem Vals.bls : ∀ {bs : List Bool} {us : List Value}, Vals (bs.map V.bl) us → us = bs.map Value.bool
 | [], us, h => by
   rw [List.map_nil] at h
   cases h
   rfl
 | b :: bs, us, h => by
   rw [List.map_cons] at h
   cases h with
   | cons r t =>
     cases r
     rw [Vals.bls t, List.map_cons]
theorem Vals.ref1 {a : Addr} {us : List Value} (r : Vals [V.ref a] us) : us = [Value.ref a] := by
 cases r with
 | cons r t =>
   cases t
   cases r
   rfl
theorem iter_any {prog : Program} {w : World} {A : Around} {E : Value → Shared → Prop} {s : Shared} {l : Addr} {items : Array Value} {Q : Value → Shared → Prop} (hl : s.heap.IsList l items)
   (h : ∀ s₂ : Shared, s₂ = { s with heap := s.heap.push { cls := .type "list_iterator", data := .fields #[.ref l, .int 0 0] } } →
     (s₂.heap.IsListIter s.heap.objs.size l 0 ∧ s₂.heap.IsList l items) → l ≠ s.heap.objs.size → Q (.ref s.heap.objs.size) s₂) : wpAny (model prog w) A (pyIter (.ref l)) Q E s := by
 have hlt : l < s.heap.objs.size := by obtain ⟨_, e, _⟩ := hl; exact Heap.lt_size e
 exact wpAny_pyIter_list hl (h _ rfl ⟨⟨_, Heap.get?_push_size _ rfl, rfl, rfl⟩, hl.push _⟩ (Nat.ne_of_lt hlt))
theorem truth_bools {prog : Program} {w : World} {A : Around} {bs : List Bool} {its : List Value} (e : its = bs.map Value.bool) :
   TruthOf prog w A (fun i v => its.toArray[i]? = some v) (fun i => bs.getD i false) := fun i v s Q E hv hq => by
 have hv' : its[i]? = some v := by simpa using hv
 rw [e, List.getElem?_map] at hv'
 obtain ⟨b, hb, rfl⟩ := Option.map_eq_some_iff.mp hv'
 have hg : bs.getD i false = b := by rw [List.getD_eq_getElem?_getD, hb] <;> rfl
 have hq' : Q (bs.getD i false) s := hq
 rw [hg] at hq'
 exact wpAny_truthy_bool hq'
theorem any_range : ∀ bs : List Bool, (List.range bs.length).any (fun i => bs.getD i false) = bs.any id
 | [] => rfl
 | b :: bs => by
   rw [List.length_cons, List.range_succ_eq_map, List.any_cons, List.any_map, List.any_cons, ← any_range bs]
   all_goals rfl
theorem all_range : ∀ bs : List Bool, (List.range bs.length).all (fun i => bs.getD i false) = bs.all id
 | [] => rfl
 | b :: bs => by
   rw [List.length_cons, List.range_succ_eq_map, List.all_cons, List.all_map, List.all_cons, ← all_range bs]
   all_goals rfl
section
variable {X : Cx}
def rAny (K : PySem.W.Frag) : List V → Hp → VK → Prop := fun vs H Q => ∃ (a : Addr) (bs : List Bool), vs = [V.ref a] ∧ SqL K H a (bs.map V.bl) ∧ Q (.bl (bs.any id)) H
def rAll (K : PySem.W.Frag) : List V → Hp → VK → Prop := fun vs H Q => ∃ (a : Addr) (bs : List Bool), vs = [V.ref a] ∧ SqL K H a (bs.map V.bl) ∧ Q (.bl (bs.all id)) H
theorem cr_any (hc : X.calm = true) : CallR X (.builtin "any") (rAny X.K) := by
 intro pins s σ H vs us Q I r h
 obtain ⟨a, bs, rfl, hs, q⟩ := h
 obtain ⟨its, rv, hl, _⟩ := I.list hs
 rw [Vals.ref1 r]
 have hb := rv.bls
 refine call_any_walk (iter_any hl.isList fun s₂ e2 st hne => ?_)
 subst e2
 refine ⟨_, _, _, _, _, _, _, rfl, Walks.list (A := X.A.in1) (I.ok.hd hc) _ a hne its.toArray, st, truth_bools hb, fun h' tk hk => ?_⟩
 refine ⟨.bl _, H, I.kept fun b o eo => hk b o (fun hmem => ?_) (Heap.get?_push_of_some _ eo), ?_, q⟩
 · rcases List.mem_cons.mp hmem with e1 | hmem
   · exact absurd (e1 ▸ Heap.lt_size eo) (Nat.lt_irrefl _)
   · cases hmem
 · show Value.bool _ = Value.bool _
   rw [← any_range, hb, List.size_toArray, List.length_map]
theorem cr_all (hc : X.calm = true) : CallR X (.builtin "all") (rAll X.K) := by
 intro pins s σ H vs us Q I r h
 obtain ⟨a, bs, rfl, hs, q⟩ := h
 obtain ⟨its, rv, hl, _⟩ := I.list hs
 rw [Vals.ref1 r]
 have hb := rv.bls
 refine call_all_walk (iter_any hl.isList fun s₂ e2 st hne => ?_)
 subst e2
 refine ⟨_, _, _, _, _, _, _, rfl, Walks.list (A := X.A.in1) (I.ok.hd hc) _ a hne its.toArray, st, truth_bools hb, fun h' tk hk => ?_⟩
 refine ⟨.bl _, H, I.kept fun b o eo => hk b o (fun hmem => ?_) (Heap.get?_push_of_some _ eo), ?_, q⟩
 · rcases List.mem_cons.mp hmem with e1 | hmem
   · exact absurd (e1 ▸ Heap.lt_size eo) (Nat.lt_irrefl _)
   · cases hmem
 · show Value.bool _ = Value.bool _
   rw [← all_range, hb, List.size_toArray, List.length_map]
end
mutual
inductive Dp (K : PySem.W.Frag) (H : Hp) : V → PyData → Prop
 | non : Dp K H .non .none
 | bl (b : Bool) : Dp K H (.bl b) (.bool b)
 | int (i : Int) : Dp K H (.int i) (.int i)
 | str (x : Str) : Dp K H (.str x) (.str x)
 | lst {a : Addr} {xs : List V} {ds : List PyData} : SqL K H a xs → DpAll K H xs ds → Dp K H (.ref a) (.list ds)
 | tup {a : Addr} {xs : List V} {ds : List PyData} : SqT K H a xs → DpAll K H xs ds → Dp K H (.ref a) (.tuple ds)
inductive DpAll (K : PySem.W.Frag) (H : Hp) : List V → List PyData → Prop
 | nil : DpAll K H [] []
 | cons {v : V} {vs : List V} {d : PyData} {ds : List PyData} : Dp K H v d → DpAll K H vs ds → DpAll K H (v :: vs) (d :: ds)
end
section
variable {X : Cx} {pins : List (Addr × Obj)} {σ : St} {H : Hp} {s : Shared}
mutual
theorem Dp.reads (I : Inv X pins σ H s) : ∀ (d : PyData) (v : V) (u : Value), Dp X.K H v d → RelV v u → ∃ as, Reads s.heap u d as
 | .none, _, _, h, r => by
   cases h
   cases r
   exact ⟨_, Reads.none⟩
 | .bool b, _, _, h, r => by
   cases h
   cases r
   exact ⟨_, Reads.bool b⟩
 | .int i, _, _, h, r => by
   cases h
   obtain ⟨t, rfl⟩ := r
   exact ⟨_, Reads.int i t⟩
 | .str x, _, _, h, r => by
   cases h
   obtain ⟨t, rfl⟩ := r
   exact ⟨_, Reads.str x t⟩
 | .list ds, _, _, h, r => by
   cases h with
   | lst hs ha =>
     cases r
     obtain ⟨its, rv, ⟨o, n, ho, hc, _, hd⟩, _⟩ := I.list hs
     obtain ⟨as, hr⟩ := Dp.readsAll I ds _ its ha rv
     exact ⟨_, Reads.list ho hc hd hr⟩
 | .tuple ds, _, _, h, r => by
   cases h with
   | tup hs ha =>
     cases r
     obtain ⟨its, rv, ⟨o, ho, hc, n, hd⟩, _⟩ := I.tuple hs
     obtain ⟨as, hr⟩ := Dp.readsAll I ds _ its ha rv
     exact ⟨_, Reads.tuple ho hc hd hr⟩
 | .dict _, _, _, h, _ => by cases h
theorem Dp.readsAll (I : Inv X pins σ H s) : ∀ (ds : List PyData) (vs : List V) (us : List Value), DpAll X.K H vs ds → Vals vs us → ∃ as, ReadsAll s.heap us ds as
 | [], _, _, h, r => by
   cases h
   cases r
   exact ⟨_, ReadsAll.nil⟩
 | d :: ds, _, _, h, r => by
   cases h with
   | cons h1 h2 =>
     cases r with
     | cons r1 r2 =>
       obtain ⟨as, q1⟩ := Dp.reads I d _ _ h1 r1
       obtain ⟨bs, q2⟩ := Dp.readsAll I ds _ _ h2 r2
       exact ⟨_, ReadsAll.cons q1 q2⟩
end
end
section
variable {X : Cx}
def rEqD (K : PySem.W.Frag) : R2 := fun x y H Q => ∃ d e, Dp K H x d ∧ Dp K H y e ∧ SeqAt.shaped d = true ∧ SeqAt.shaped e = true ∧ Q (.bl (PyData.eqv d e)) H
def rNeD (K : PySem.W.Frag) : R2 := fun x y H Q => ∃ d e, Dp K H x d ∧ Dp K H y e ∧ SeqAt.shaped d = true ∧ SeqAt.shaped e = true ∧ Q (.bl (!PyData.eqv d e)) H
theorem op_eqD (hu : X.A.units + 64 < cLine) : OpR X (compareOp .Eq) (rEqD X.K) := by
 intro pins s σ H x y v u Q I rx ry h
 obtain ⟨d, e, hd, he, sd, se, q⟩ := h
 obtain ⟨as, r1⟩ := Dp.reads I d x v hd rx
 obtain ⟨bs, r2⟩ := Dp.reads I e y u he ry
 exact SeqAt.compareEq_shaped r1 r2 sd se hu ⟨.bl _, H, I, rfl, q⟩
theorem op_neD (hu : X.A.units + 64 < cLine) : OpR X (compareOp .NotEq) (rNeD X.K) := by
 intro pins s σ H x y v u Q I rx ry h
 obtain ⟨d, e, hd, he, sd, se, q⟩ := h
 obtain ⟨as, r1⟩ := Dp.reads I d x v hd rx
 obtain ⟨bs, r2⟩ := Dp.reads I e y u he ry
 exact SeqAt.compareNe_shaped r1 r2 sd se hu ⟨.bl _, H, I, rfl, q⟩
end
end L2
namespace L2
open PySem PySem.Spec PyProof.Rows
abbrev CellAt (h : Heap) (c : Addr) (v : Option Value) : Prop := h.IsCell c v
def relS (scope sc : Scope) : Scope :=
 { scope with names := scope.names.map fun (n, k) => if (k == .free && sc.kind == .function && sc.names.lookup n == some .cell) then (n, .cell) else (n, k) }
def cloFrom (cells : List (Str × Addr)) : List (Str × NameKind) → List (Str × Addr) → List (Str × Addr)
 | [], acc => acc
 | (n, k) :: r, acc => if k == .free then cloFrom cells r ((n, (cells.lookup n).getD 0) :: acc) else cloFrom cells r acc
theorem closure_loop (env : Env) (f : Str × NameKind → List (Str × Addr) → Sem (ForInStep (List (Str × Addr))))
   (hf : ∀ n k c, f (n, k) c = if k == .free then (do let a ← cellOf env n; pure (.yield ((n, a) :: c))) else pure (.yield c)) :
   ∀ (names : List (Str × NameKind)) (acc : List (Str × Addr)), (∀ y ∈ names, y.2 = .free → ∃ c, env.cells.lookup y.1 = some c) → forIn names acc f = pure (cloFrom env.cells names acc)
 | [], acc, _ => by rw [List.forIn_nil]; rfl
 | (n, k) :: r, acc, h => by
   rw [List.forIn_cons, hf]
   have ih := fun acc => closure_loop env f hf r acc fun y hy => h y (List.mem_cons_of_mem _ hy)
   unfold cloFrom
   by_cases hk : (k == NameKind.free) = true
   · rw [if_pos hk, if_pos hk]
     obtain ⟨c, hc⟩ := h (n, k) List.mem_cons_self (by simpa using hk)
     have e : cellOf env n = pure c := by unfold cellOf; rw [hc]
     rw [e]
     have e2 : (env.cells.lookup n).getD 0 = c := by rw [hc]; rfl
     rw [e2]
     exact ih _
   · rw [if_neg hk, if_neg hk]
     exact ih _
theorem closure_ok {scope : Scope} {env : Env} (h : ∀ y ∈ scope.names, y.2 = .free → ∃ c, env.cells.lookup y.1 = some c) : closureFor scope env = pure (cloFrom env.cells scope.names []) := by
 simp only [closureFor]
 rw [closure_loop env _ (fun n k c => rfl) scope.names [] h]
 rfl
theorem mem_lookup {α : Type} : ∀ {l : List (Str × α)} {n : Str} {c : α}, (n, c) ∈ l → ∃ c', l.lookup n = some c'
 | (k, v) :: r, n, c, h => by
   rw [List.lookup_cons]
   cases hb : n == k with
   | true => exact ⟨_, rfl⟩
   | false =>
     rcases List.mem_cons.mp h with e | h
     · cases e; simp at hb
     · exact mem_lookup h
theorem cloFrom_mem {cells : List (Str × Addr)} : ∀ {names : List (Str × NameKind)} {acc : List (Str × Addr)} {n : Str} {c : Addr}, (n, c) ∈ cloFrom cells names acc → (n, c) ∈ acc ∨ ((n, .free) ∈ names ∧ c = (cells.lookup n).getD 0)
 | [], _, _, _, h => .inl h
 | (m, k) :: r, acc, n, c, h => by
   unfold cloFrom at h
   split at h
   · rename_i hk
     have hk : k = .free := by simpa using hk
     rcases cloFrom_mem h with h | ⟨h1, h2⟩
     · rcases List.mem_cons.mp h with e | h
       · cases e; exact .inr ⟨hk ▸ List.mem_cons_self, rfl⟩
       · exact .inl h
     · exact .inr ⟨List.mem_cons_of_mem _ h1, h2⟩
   · rcases cloFrom_mem h with h | ⟨h1, h2⟩
     · exact .inl h
     · exact .inr ⟨List.mem_cons_of_mem _ h1, h2⟩
theorem cloFrom_acc {cells : List (Str × Addr)} : ∀ {names : List (Str × NameKind)} {acc : List (Str × Addr)} {p : Str × Addr}, p ∈ acc → p ∈ cloFrom cells names acc
 | [], _, _, h => h
 | (m, k) :: r, acc, p, h => by
   unfold cloFrom
   split
   · exact cloFrom_acc (List.mem_cons_of_mem _ h)
   · exact cloFrom_acc h
theorem cloFrom_has {cells : List (Str × Addr)} : ∀ {names : List (Str × NameKind)} {acc : List (Str × Addr)} {n : Str}, (n, .free) ∈ names → (n, (cells.lookup n).getD 0) ∈ cloFrom cells names acc
 | (m, k) :: r, acc, n, h => by
   unfold cloFrom
   rcases List.mem_cons.mp h with e | h
   · cases e
     exact cloFrom_acc List.mem_cons_self
   · split
     · exact cloFrom_has h
     · exact cloFrom_has h
theorem cells_mem : ∀ {names : List (Str × NameKind)} {h : Heap} {acc : List (Str × Addr)} {x : Str} {c : Addr}, (x, c) ∈ cellsFrom h.objs.size names acc →
   (x, c) ∈ acc ∨ ((x, .cell) ∈ names ∧ h.objs.size ≤ c ∧ CellAt (pushCells h names) c none)
 | [], _, _, _, _, h => .inl h
 | (n, k) :: r, h, acc, x, c, hm => by
   unfold cellsFrom at hm
   unfold pushCells
   split at hm
   · rename_i hk
     rw [if_pos hk]
     have hk : k = .cell := by simpa using hk
     rw [← Heap.size_push h { cls := .type "cell", data := .cell none }] at hm
     rcases cells_mem hm with hm | ⟨h1, h2, h3⟩
     · rcases List.mem_cons.mp hm with e | hm
       · cases e
         exact .inr ⟨hk ▸ List.mem_cons_self, Nat.le_refl _, _, pushCells_keeps r _ _ _ (Heap.get?_push_size _ rfl), rfl⟩
       · exact .inl hm
     · rw [Heap.size_push] at h2
       exact .inr ⟨List.mem_cons_of_mem _ h1, Nat.le_of_succ_le h2, h3⟩
   · rename_i hk
     rw [if_neg hk]
     rcases cells_mem hm with hm | ⟨h1, h2, h3⟩
     · exact .inl hm
     · exact .inr ⟨List.mem_cons_of_mem _ h1, h2, h3⟩
theorem cells_acc : ∀ {names : List (Str × NameKind)} {n : Nat} {acc : List (Str × Addr)} {p : Str × Addr}, p ∈ acc → p ∈ cellsFrom n names acc
 | [], _, _, _, h => h
 | (m, k) :: r, n, acc, p, h => by
   unfold cellsFrom
   split
   · exact cells_acc (List.mem_cons_of_mem _ h)
   · exact cells_acc h
theorem cells_has : ∀ {names : List (Str × NameKind)} {n : Nat} {acc : List (Str × Addr)} {x : Str}, (x, .cell) ∈ names → ∃ c, (x, c) ∈ cellsFrom n names acc
 | (m, k) :: r, n, acc, x, h => by
   unfold cellsFrom
   rcases List.mem_cons.mp h with e | h
   · cases e
     exact ⟨n, cells_acc List.mem_cons_self⟩
   · split
     · exact cells_has h
     · exact cells_has h
theorem cells_inj : ∀ {names : List (Str × NameKind)} {h : Heap} {acc : List (Str × Addr)} {x y : Str} {c : Addr}, (∀ p ∈ acc, p.2 < h.objs.size) → (∀ x y c, (x, c) ∈ acc → (y, c) ∈ acc → x = y) →
   (x, c) ∈ cellsFrom h.objs.size names acc → (y, c) ∈ cellsFrom h.objs.size names acc → x = y
 | [], _, _, _, _, _, _, hi, h1, h2 => hi _ _ _ h1 h2
 | (n, k) :: r, h, acc, x, y, c, hl, hi, h1, h2 => by
   unfold cellsFrom at h1 h2
   split at h1
   · rename_i hk
     rw [if_pos hk] at h2
     rw [← Heap.size_push h { cls := .type "cell", data := .cell none }] at h1 h2
     refine cells_inj (h := h.push _) (fun p hp => ?_) (fun x y c a b => ?_) h1 h2
     · rw [Heap.size_push]
       rcases List.mem_cons.mp hp with rfl | hp
       · exact Nat.lt_succ_self _
       · exact Nat.lt_succ_of_lt (hl p hp)
     · rcases List.mem_cons.mp a with e | a <;> rcases List.mem_cons.mp b with e' | b
       · cases e; cases e'; rfl
       · cases e; exact absurd (hl _ b) (Nat.lt_irrefl _)
       · cases e'; exact absurd (hl _ a) (Nat.lt_irrefl _)
       · exact hi _ _ _ a b
   · rename_i hk
     rw [if_neg hk] at h2
     exact cells_inj hl hi h1 h2
theorem newEnv_comp {M : Model} {A : Around} {E : Value → Shared → Prop} {s : Shared} {scope : Scope} {globals : Addr} {closure : List (Str × Addr)} {qual : Str} {func : Option Addr} {code : Value} {around : Env} {builtins : Addr} {Q : Env → Shared → Prop}
   (h : Q (newEnv scope s.heap.objs.size globals (cellsFrom (s.heap.objs.size + 1) scope.names closure) qual func code (some around) builtins)
     { s with heap := pushCells (s.heap.push { cls := .type "dict", data := .dict #[] }) scope.names }) :
   wpAny M A (newFunctionEnv scope globals closure [] qual func code (some around) builtins) Q E s := by
 simp only [newFunctionEnv, Option.isSome_some, if_true]
 refine wpAny_bind (wpAny_alloc ?_)
 refine wpAny_bind (wpAny_layCells _ (fun n k c => rfl) scope.names closure _ _ ?_)
 rw [show ({ s with heap := s.heap.push { cls := .type "dict", data := .dict #[] } } : Shared).heap.objs.size = s.heap.objs.size + 1 from Heap.size_push ..]
 rw [List.forIn_nil]
 exact wpAny_bind (wpAny_pure (wpAny_pure h))
theorem lookup_relS {sc : Scope} : ∀ {names : List (Str × NameKind)} {x : Str} {k : NameKind},
   (names.map fun (n, k) => if (k == NameKind.free && sc.kind == .function && sc.names.lookup n == some .cell) then (n, NameKind.cell) else (n, k)).lookup x = some k →
   ∃ k', names.lookup x = some k' ∧ (k = k' ∨ (k' = .free ∧ k = .cell))
 | [], _, _, h => by simp at h
 | (n, k₀) :: r, x, k, h => by
   have ih := @lookup_relS sc r x k
   have h' : List.lookup x ((if (k₀ == NameKind.free && sc.kind == .function && sc.names.lookup n == some .cell) = true then (n, NameKind.cell) else (n, k₀)) :: (r.map _)) = some k := h
   cases hx : x == n with
   | true =>
     simp only [List.lookup_cons, hx]
     by_cases hc : (k₀ == NameKind.free && sc.kind == .function && sc.names.lookup n == some .cell) = true
     · rw [if_pos hc] at h'
       simp only [List.lookup_cons, hx] at h'
       cases h'
       simp only [Bool.and_eq_true, beq_iff_eq] at hc
       exact ⟨k₀, rfl, .inr ⟨hc.1.1, rfl⟩⟩
     · rw [if_neg hc] at h'
       simp only [List.lookup_cons, hx] at h'
       cases h'
       exact ⟨_, rfl, .inl rfl⟩
   | false =>
     simp only [List.lookup_cons, hx]
     by_cases hc : (k₀ == NameKind.free && sc.kind == .function && sc.names.lookup n == some .cell) = true
     · rw [if_pos hc] at h'
       simp only [List.lookup_cons, hx] at h'
       exact ih h'
     · rw [if_neg hc] at h'
       simp only [List.lookup_cons, hx] at h'
       exact ih h'
structure BlkOk (N : List Str) (sc scope : Scope) (own : List (Str × Nat)) : Prop where
 kind : scope.kind = .function
 uniq : ∀ y ∈ scope.names, scope.names.lookup y.1 = some y.2
 ix : ∀ p ∈ own, N[p.2]? = some p.1
 free : ∀ y ∈ scope.names, y.2 = .free → sc.names.lookup y.1 = some .cell ∨ sc.names.lookup y.1 = some .free
 own : ∀ y ∈ scope.names, y.2 = .local ∨ y.2 = .cell → y.1 ∈ own.map (·.1) ∨ y.1 ∉ N
def wipe (σ : St) : List Nat → St
 | [] => σ
 | v :: vs => (wipe σ vs).set v none
theorem wipe_length (σ : St) : ∀ vs : List Nat, (wipe σ vs).length = σ.length
 | [] => rfl
 | v :: vs => by unfold wipe; rw [List.length_set, wipe_length σ vs]
theorem wipe_some {σ : St} {i : Nat} {x : V} : ∀ {vs : List Nat}, (wipe σ vs)[i]? = some (some x) → σ[i]? = some (some x) ∧ i ∉ vs
 | [], h => ⟨h, by simp⟩
 | v :: vs, h => by
   unfold wipe at h
   by_cases hi : v = i
   · subst hi
     by_cases hv : v < (wipe σ vs).length
     · rw [List.getElem?_set_self hv] at h; cases h
     · rw [List.getElem?_eq_none (by simpa using hv)] at h; cases h
   · rw [List.getElem?_set_ne hi] at h
     obtain ⟨h1, h2⟩ := wipe_some h
     exact ⟨h1, by simp only [List.mem_cons, not_or]; exact ⟨fun e => hi e.symm, h2⟩⟩
abbrev Cx.blk (X : Cx) (s : Shared) (H : Hp) (scope : Scope) (cenv : Env) (fp : List Addr) : Cx := { X with s_0 := s, H_0 := H, env := cenv, outer := X.stack, ex := fp, fn := fun x => scope.names.lookup x == some .cell, pn := [], xe := fun _ _ => False }
section
variable {X : Cx} {pins : List (Addr × Obj)} {σ : St} {H : Hp} {s : Shared}
theorem block_start {scope : Scope} {own : List (Str × Nat)} {fp : List Addr} (I : Inv X pins σ H s) (ok : BlkOk X.N X.env.scope scope own) (hN : X.N.Nodup) (hfp : ∀ b ∈ fp, FpOk X pins H b ∧ b < s.heap.objs.size) :
   Inv (X.blk s H scope (compEnvC scope (cellsFrom (s.heap.objs.size + 1) scope.names (cloFrom X.env.cells scope.names [])) s.heap.objs.size X.env) fp) [] (wipe σ (own.map (·.2))) H { s with heap := pushCells (s.heap.push { cls := .type "dict", data := .dict #[] }) scope.names } := by
 have hfree : ∀ y ∈ scope.names, y.2 = .free → ∃ c, X.env.cells.lookup y.1 = some c := fun y hy e => by
   rcases ok.free y hy e with k | k
   · exact I.ok.has _ (.inl k)
   · exact I.ok.has _ (.inr k)
 generalize hcenv : compEnvC scope (cellsFrom (s.heap.objs.size + 1) scope.names (cloFrom X.env.cells scope.names [])) s.heap.objs.size X.env = cenv
 have kp : ∀ b o, s.heap.get? b = some o → (pushCells (s.heap.push { cls := .type "dict", data := .dict #[] }) scope.names).get? b = some o := fun b o e => pushCells_keeps _ _ _ _ (Heap.get?_push_of_some _ e)
 have hL : cenv.locals = s.heap.objs.size := by rw [← hcenv]; rfl
 have hcl : cenv.cells = cellsFrom (s.heap.objs.size + 1) scope.names (cloFrom X.env.cells scope.names []) := by rw [← hcenv]; rfl
 have hsc : cenv.scope = relS scope X.env.scope := by rw [← hcenv]; rfl
 rw [← Heap.size_push s.heap { cls := .type "dict", data := .dict #[] }] at hcl
 have cm : ∀ {y c}, (y, c) ∈ cloFrom X.env.cells scope.names [] → X.env.cells.lookup y = some c ∧ c < s.heap.objs.size := fun {y c} hm => by
   rcases cloFrom_mem hm with hm | ⟨h1, rfl⟩
   · cases hm
   · obtain ⟨c, hc⟩ := hfree _ h1 rfl
     rw [hc]
     obtain ⟨w, z⟩ := I.cell _ _ hc
     exact ⟨rfl, z.lt⟩
 have mem : ∀ {y c}, cenv.cells.lookup y = some c → (X.env.cells.lookup y = some c ∧ c < s.heap.objs.size) ∨ (s.heap.objs.size + 1 ≤ c ∧ CellAt (pushCells (s.heap.push { cls := .type "dict", data := .dict #[] }) scope.names) c none) := fun {y c} e => by
   rw [hcl] at e
   rcases cells_mem (PySem.mem_of_lookup e) with hm | ⟨_, h2, h3⟩
   · exact .inl (cm hm)
   · rw [Heap.size_push] at h2; exact .inr ⟨h2, h3⟩
 have look : ∀ {y}, scope.names.lookup y = some .free → ∃ c, cenv.cells.lookup y = some c ∧ X.env.cells.lookup y = some c := fun {y} hl => by
   have hy : (y, NameKind.free) ∈ scope.names := PySem.mem_of_lookup hl
   obtain ⟨c', e'⟩ := mem_lookup (cells_acc (names := scope.names) (n := (s.heap.push { cls := .type "dict", data := .dict #[] }).objs.size) (cloFrom_has (cells := X.env.cells) (acc := []) hy))
   rw [← hcl] at e'
   refine ⟨c', e', ?_⟩
   rw [hcl] at e'
   rcases cells_mem (PySem.mem_of_lookup e') with hm | ⟨h1, _, _⟩
   · exact (cm hm).1
   · have := ok.uniq _ h1
     rw [hl] at this; cases this
 have okB : (X.blk s H scope cenv fp).Ok := by
   refine ⟨I.ok.mod, by show cenv.scope.kind = _; rw [hsc]; exact ok.kind, by show cenv.globals = _; rw [← hcenv]; exact I.ok.glob, by show cenv.builtins = _; rw [← hcenv]; exact I.ok.blt, by show s.heap.objs.size ≤ cenv.locals; rw [hL]; exact Nat.le_refl _,
     fun y z c e1 e2 => ?_, fun y hy => ?_, fun y c z e => ?_, I.ok.hd, I.ok.frames, .inl rfl, fun b hb => ⟨?_, fun y c e z => ?_⟩, I.bs, Nat.le_trans I.ok.bsz I.sz, fun b o e hb => ?_, fun b hb z => ?_, I.stack, I.stkFree⟩
   · have e1 : cenv.cells.lookup y = some c := e1
     have e2 : cenv.cells.lookup z = some c := e2
     rw [hcl] at e1 e2
     refine cells_inj (fun p hp => ?_) (fun y z c a b => I.ok.inj y z c (cm a).1 (cm b).1) (PySem.mem_of_lookup e1) (PySem.mem_of_lookup e2)
     rw [Heap.size_push]
     exact Nat.lt_succ_of_lt (cm (y := p.1) (c := p.2) hp).2
   · show ∃ c, cenv.cells.lookup y = some c
     have key : ∀ k, cenv.kindOf y = some k → (k = .cell ∨ k = .free) → ∃ c, cenv.cells.lookup y = some c := fun k hk hk' => by
       unfold Env.kindOf at hk
       rw [hsc] at hk
       obtain ⟨k', e, r⟩ := lookup_relS hk
       have : k' = .cell ∨ k' = .free := by
         rcases r with rfl | ⟨rfl, _⟩
         · exact hk'
         · exact .inr rfl
       rcases this with rfl | rfl
       · obtain ⟨c, hm⟩ := cells_has (n := (s.heap.push { cls := .type "dict", data := .dict #[] }).objs.size) (acc := cloFrom X.env.cells scope.names []) (PySem.mem_of_lookup e)
         obtain ⟨c', e'⟩ := mem_lookup hm
         exact ⟨c', by rw [hcl]; exact e'⟩
       · obtain ⟨c, h1, _⟩ := look e
         exact ⟨c, h1⟩
     rcases hy with hy | hy
     · exact key _ hy (.inl rfl)
     · exact key _ hy (.inr rfl)
   · have z : (scope.names.lookup y == some NameKind.cell) = true := z
     have z : scope.names.lookup y = some .cell := by simpa using z
     have e : cenv.cells.lookup y = some c := e
     rw [hcl] at e
     rcases cells_mem (PySem.mem_of_lookup e) with hm | ⟨_, h2, _⟩
     · rcases cloFrom_mem hm with hm | ⟨h1, _⟩
       · cases hm
       · have q := ok.uniq _ h1
         rw [z] at q; cases q
     · rw [Heap.size_push] at h2
       exact Nat.le_of_succ_le h2
   · show b ≠ cenv.locals
     rw [hL]; exact Nat.ne_of_lt (hfp b hb).2
   · have e : cenv.cells.lookup y = some c := e
     rcases mem e with ⟨h1, _⟩ | ⟨h1, _⟩
     · exact (hfp b hb).1.2.2.2.2.1 y c h1 z
     · have h2 : s.heap.objs.size + 1 ≤ b := by rw [← z]; exact h1
       exact absurd (Nat.lt_of_lt_of_le (hfp b hb).2 (Nat.le_of_succ_le h2)) (Nat.lt_irrefl _)
   · rcases (hfp b hb).1.2.2.2.1 with z | z
     · exact I.ok.noex b o e z
     · exact absurd (Nat.lt_of_lt_of_le (Heap.lt_size e) (Nat.le_trans I.ok.bsz z)) (Nat.lt_irrefl _)
   · rcases List.mem_cons.mp (I.stkSub b z) with z | z
     · exact (hfp b hb).1.2.1 z
     · exact (hfp b hb).1.2.2.1 z
 refine ⟨okB, rfl, I.bare, Un.kept kp, ⟨fun _ => none, ?_, fun i y av e1 e2 e3 => ?_⟩, fun y c e => ?_, ?_, fun y c e => ?_, fun p hp => ?_, I.hok.kept kp, by rw [wipe_length]; exact I.len⟩
 · show Heap.Ns _ cenv.locals _
   rw [hL]
   exact Heap.Ns.keeps (Heap.Ns.new ..) fun b o e => pushCells_keeps _ _ _ _ e
 · obtain ⟨e2, hne⟩ := wipe_some e2
   have hfr : scope.names.lookup y = some .free ∧ (cenv.kindOf y = some .cell ∨ cenv.kindOf y = some .free) := by
     have key : ∀ k, cenv.scope.names.lookup y = some k → k = .local ∨ k = .cell ∨ k = .free → scope.names.lookup y = some .free ∧ (cenv.kindOf y = some .cell ∨ cenv.kindOf y = some .free) := fun k hk hk' => by
       have hk0 := hk
       rw [hsc] at hk
       obtain ⟨k', e, r⟩ := lookup_relS hk
       have no : ¬ (k' = .local ∨ k' = .cell) := fun hh => by
         rcases ok.own _ (PySem.mem_of_lookup e) hh with e' | e'
         · obtain ⟨p, hp, hpy⟩ := List.mem_map.mp e'
           have e3 := ok.ix p hp
           have : p.1 = y := hpy
           rw [this] at e3
           exact hne (List.mem_map.mpr ⟨p, hp, nodup_ix hN e3 e1⟩)
         · exact e' (List.mem_of_getElem? e1)
       rcases r with rfl | ⟨rfl, rfl⟩
       · rcases hk' with rfl | rfl | rfl
         · exact absurd (.inl rfl) no
         · exact absurd (.inr rfl) no
         · exact ⟨e, .inr hk0⟩
       · exact ⟨e, .inl hk0⟩
     have e3 : Vis cenv.scope y := e3
     rcases e3 with e3 | e3 | e3
     · exact key _ e3 (.inl rfl)
     · exact key _ e3 (.inr (.inl rfl))
     · exact key _ e3 (.inr (.inr rfl))
   obtain ⟨m, hn, hl⟩ := I.loc
   have hvis : Vis X.env.scope y := (ok.free _ (PySem.mem_of_lookup hfr.1) rfl).elim (fun k => .inr (.inl k)) (fun k => .inr (.inr k))
   obtain ⟨w, r, q⟩ := hl i y av e1 e2 hvis
   refine ⟨w, r, .inr ⟨hfr.2, ?_⟩⟩
   obtain ⟨c, h1, h2⟩ := look hfr.1
   rcases q with ⟨k, _⟩ | ⟨_, c', e', z⟩
   · have k : X.env.scope.names.lookup y = some .local := k
     rcases ok.free _ (PySem.mem_of_lookup hfr.1) rfl with k' | k' <;> rw [show X.env.scope.names.lookup y = _ from k'] at k <;> cases k
   · rw [h2] at e'; cases e'
     exact ⟨c, h1, z.keeps kp⟩
 · have e : cenv.cells.lookup y = some c := e
   rcases mem e with ⟨h1, _⟩ | ⟨_, z⟩
   · obtain ⟨w, z⟩ := I.cell y c h1
     exact ⟨w, z.keeps kp⟩
   · exact ⟨_, z⟩
 · show H cenv.locals = none
   rw [hL]; exact I.hok.fresh (Nat.le_refl _)
 · have e : cenv.cells.lookup y = some c := e
   rcases mem e with ⟨h1, _⟩ | ⟨h1, _⟩
   · exact I.freeC y c h1
   · exact I.hok.fresh (Nat.le_of_succ_le h1)
 · exact absurd (show p ∈ ([] : List (Addr × Obj)) ++ [] from hp) (by simp)
theorem app_ok {E : Value → Shared → Prop} {D : Addr} {xs : List V} {y : V} {v : Value} {Q : Value → Shared → Prop} (I : Inv X pins σ H s) (hD : H D = some (.lst xs)) (hz : xs.length < sizeLine) (r : RelV y v)
   (h : ∀ s', Inv X pins σ (upd H D (.lst (xs ++ [y]))) s' → Q .none s') : wpAny (model X.prog X.w) X.A (call (.builtin "list.append") [.ref D, v]) Q E s := by
 obtain ⟨hz', its, n, ri, e⟩ := I.hok D _ hD
 have hl := ri.length
 refine append_at (hsz := by rw [List.size_toArray]; omega) e fun h' sb ho' => ?_
 refine h { s with heap := h' } (I.write (t' := s.toks) (by rw [hD]; trivial) (.inl rfl) (fun b u hb q => (sb.2 b hb).trans q) ⟨_, ho'⟩ ⟨by rw [List.length_append]; exact hz, its ++ [v], n + 1, ri.append (.cons r .nil), ?_⟩)
 rw [ho']
 simp
def PTs (X : Cx) (ifs : List Expr) (t : TT) : Prop :=
 ∀ (pins : List (Addr × Obj)) (s : Shared) (σ : St) (H : Hp) (Q : Bool → Hp → Prop), Inv X pins σ H s → t σ H Q →
   wpAny (model X.prog X.w) X.A (forIn ifs true fun c r => if r = true then do let ok ← isTrue c X.env (eval c X.env); pure (ForInStep.yield ok) else pure (ForInStep.yield r)) (TP X pins σ Q) X.xe s
def tYes : TT := fun _ H Q => Q true H
theorem pts_nil : PTs X [] tYes := fun _ _ _ H _ I h => wpAny_tests_nil ⟨H, I, h⟩
theorem pts_one {c : Expr} {t : TT} (h : PT X c t) : PTs X [c] t := fun pins s σ H Q I hw => wpAny_tests_one (h pins s σ H Q I hw)
end
theorem thnF {α : Type} {t : Sem α} {Q Q' : α → Shared → Prop} {M : Model} {A : Around} {E : Value → Shared → Prop} {s : Shared} (h : wpAny M A t Q (fun _ _ => False) s) (hQ : ∀ a s, Q a s → Q' a s) : wpAny M A t Q' E s := wpAny_mono h hQ fun _ _ z => False.elim z
theorem compLoop_any {prog : Program} {w : World} {A : Around} {R : Result → Shared → Prop} {s : Shared} {elt target iter : Expr} {ifs : List Expr} {scope : Scope} {pos : Pos} {it acc : Value} {env : Env} (I : Nat → Shared → Prop)
   (turn : ∀ n s, I n s → wpAny (model prog w) A (pyNext it) (fun r s₁ => match r with
     | none => R (.ok .next) s₁
     | some v => wpAny (model prog w) A (letOwnedTupleGo target it v) (fun _ s₁' => wpAny (model prog w) A (assign target env v) (fun _ s₂ =>
         wpAny (model prog w) A (forIn ifs true fun c r => if r = true then do let ok ← isTrue c env (eval c env); pure (ForInStep.yield ok) else pure (ForInStep.yield r)) (fun ok s₃ =>
           if ok = true then wpAny (model prog w) A (eval elt env) (fun x s₄ =>
             wpAny (model prog w) A (call (.builtin "list.append") [acc, x]) (fun _ s₅ => ∃ m, m < n ∧ I m s₅) (notedBy (model prog w) A env fun e s' => R (.error e) s') s₄) (notedBy (model prog w) A env fun e s' => R (.error e) s') s₃
           else ∃ m, m < n ∧ I m s₃) (notedBy (model prog w) A env fun e s' => R (.error e) s') s₂) (notedBy (model prog w) A env fun e s' => R (.error e) s') s₁') (notedBy (model prog w) A env fun e s' => R (.error e) s') s₁) (notedBy (model prog w) A env fun e s' => R (.error e) s') s)
   (n : Nat) (h : I n s) :
   codeAny (model prog w) A (.compLoop (.ListComp elt [⟨target, iter, ifs, 0⟩] scope pos) 0 it acc env) R s := by
 refine codeAny_loop rfl I (fun n s hI => ?_) n h
 show wpAny _ A ((compTurn (.ListComp elt [⟨target, iter, ifs, 0⟩] scope pos) 0 it acc env).onRaise (fun x => do noteFrame x env; theTreesLotGoes x)) _ _ s
 refine wpAny_noted ?_
 rw [compTurn_list]
 refine wpAny_bind (wpAny_standAt (wpAny_bind (wpAny_mono (turn n s hI) (fun r s₁ h₁ => ?_) fun _ _ h' => h')))
 cases r with
 | none => exact wpAny_pure h₁
 | some v =>
   refine wpAny_bind (wpAny_mono h₁ (fun _ s₁' h₁' => ?_) fun _ _ h' => h')
   refine wpAny_bind (wpAny_mono h₁' (fun _ s₂ h₂ => wpAny_bind (wpAny_mono h₂ (fun ok s₃ h₃ => ?_) fun _ _ h' => h')) fun _ _ h' => h')
   cases ok with
   | false => exact wpAny_pure ⟨rfl, h₃⟩
   | true =>
     exact wpAny_bind (wpAny_bind (wpAny_mono h₃ (fun x s₄ h₄ => wpAny_bind (wpAny_mono h₄ (fun _ s₅ h₅ => wpAny_pure (wpAny_pure ⟨rfl, h₅⟩)) fun _ _ h' => h')) fun _ _ h' => h'))
section
variable {X : Cx}
def tLc (wi : TI) (g : TG) (tt : TT) (te : TE) (vs : List Nat) : TE := fun σ H Q => wi σ H fun J H1 => ∀ D, H1 D = none → ∃ W : Nat → Nat → Hp → Prop, (∃ m, W 0 m (upd H1 D (.lst []))) ∧ ∀ i m H, W i m H →
 (J.stop i H ∧ Q (.ref D) H) ∨ (J.go i H ∧ ∃ Nx : Hp → Prop, (∀ H', Nx H' → ∃ m', m' < m ∧ W (i + 1) m' H') ∧ ∀ x H', J.yld i H x H' → g x (wipe σ vs) H' fun σ2 H2 => wipe σ2 vs = wipe σ vs ∧ tt σ2 H2 fun b H3 =>
   if b = true then te σ2 H3 fun y H4 => ∃ acc, H4 D = some (.lst acc) ∧ acc.length < sizeLine ∧ Nx (upd H4 D (.lst (acc ++ [y]))) else Nx H3)
theorem lc_core {pins : List (Addr × Obj)} {s : Shared} {σ : St} {H : Hp} {Q : VK} {elt tg iter : Expr} {ifs : List Expr} {scope : Scope} {own : List (Str × Nat)} {pos pos' : Pos} {wi : TI} {g : TG} {tt : TT} {te : TE} {use : Option (Value → Sem Unit)} {Qf : Value → Shared → Prop}
   (hc : X.calm = true) (hN : X.N.Nodup) (I : Inv X pins σ H s) (hi : PI X tg iter wi) (ok : BlkOk X.N X.env.scope scope own)
   (hg : ∀ (s : Shared) (H : Hp) (C : Addr) (cl : List (Str × Addr)) (fp : List Addr), PG (X.blk s H scope (compEnvC scope cl C X.env) fp) tg g) (ht : ∀ (s : Shared) (H : Hp) (C : Addr) (cl : List (Str × Addr)) (fp : List Addr), PTs (X.blk s H scope (compEnvC scope cl C X.env) fp) ifs tt)
   (he : ∀ (s : Shared) (H : Hp) (C : Addr) (cl : List (Str × Addr)) (fp : List Addr), PE (X.blk s H scope (compEnvC scope cl C X.env) fp) elt te) (hs : ∀ x, foldedSetIterable iter X.env x = pure x)
   (h : tLc wi g tt te (own.map (·.2)) σ H Q)
   (hRR : ∀ D C s' m H', Inv X pins σ H' s' → Q (.ref D) H' → s'.heap.Ns C m → FpOk X pins H' C → compPost (model X.prog X.w) X.A X.xe use Qf (.ref D) C (.ok .next) s') :
   wpAny (model X.prog X.w) X.A (comprehension (.ListComp elt [⟨tg, iter, ifs, 0⟩] scope pos) scope X.env pos' (newList []) false (eval iter X.env) use) Qf X.xe s := by
 have hfree : ∀ y ∈ scope.names, y.2 = .free → ∃ c, X.env.cells.lookup y.1 = some c := fun y hy e => by
   rcases ok.free y hy e with k | k
   · exact I.ok.has _ (.inl k)
   · exact I.ok.has _ (.inr k)
 refine wpAny_comprehension_free (use := use) rfl hs (closure_ok hfree) ok.kind (fun y hy e => by rw [ok.uniq y hy, e])
   (thn (hi pins s σ H _ I h) fun xv s1 hx => thn hx fun itv s2 h2 => ?_)
 obtain ⟨it, fp, tn, J, H2, e, I2, T, st2, f2, q⟩ := h2
 subst e
 refine wpAny_newObj_type (newEnv_comp ?_) (by show 0 ≤ sizeLine; decide)
 generalize hD : s2.heap.objs.size = D
 have hDn : H2 D = none := I2.hok.fresh (Nat.le_of_eq hD)
 obtain ⟨W, ⟨m0, w0⟩, turn⟩ := q D hDn
 -- the new list
 generalize hs3 : ({ s2 with heap := s2.heap.push { cls := .type "list", data := .seq ([] : List Value).toArray } } : Shared) = s3
 have I3 : Inv X pins σ (upd H2 D (.lst [])) s3 := by
   rw [← hs3]
   refine I2.laid (t' := s2.toks) (fun b o e => Heap.get?_push_of_some _ e) (Nat.le_of_eq hD) ⟨Nat.zero_le _, [], 0, .nil, ?_⟩
   rw [← hD]
   exact Heap.get?_push_size _ rfl
 have h3 : s3.heap = s2.heap.push { cls := .type "list", data := .seq ([] : List Value).toArray } := by rw [← hs3]
 have sz : ∀ b ∈ fp, b < s2.heap.objs.size := fun b hb => by
   obtain ⟨o, e, _⟩ := T.obj _ _ st2 b hb
   exact Heap.lt_size e
 have f3 : ∀ b ∈ fp, FpOk X pins (upd H2 D (.lst [])) b ∧ b < s3.heap.objs.size := fun b hb => by
   have hlt := sz b hb
   refine ⟨⟨?_, (f2 b hb).2⟩, by rw [h3, Heap.size_push]; exact Nat.lt_succ_of_lt hlt⟩
   rw [upd_ne (by rw [← hD]; exact Nat.ne_of_lt hlt)]
   exact (f2 b hb).1
 have st3 : tn 0 s3.heap := T.keep _ _ _ st2 fun b _ o e => by rw [h3]; exact Heap.get?_push_of_some _ e
 have I4 := block_start I3 ok hN f3
 have pg := hg s3 (upd H2 D (.lst [])) s3.heap.objs.size (cellsFrom (s3.heap.objs.size + 1) scope.names (cloFrom X.env.cells scope.names [])) fp
 have pt := ht s3 (upd H2 D (.lst [])) s3.heap.objs.size (cellsFrom (s3.heap.objs.size + 1) scope.names (cloFrom X.env.cells scope.names [])) fp
 have pe := he s3 (upd H2 D (.lst [])) s3.heap.objs.size (cellsFrom (s3.heap.objs.size + 1) scope.names (cloFrom X.env.cells scope.names [])) fp
 show codeAny _ _ (.compStart (.ListComp elt [⟨tg, iter, ifs, 0⟩] scope pos) 0 (.ref it) (.ref D) (compEnvC scope (cellsFrom (s3.heap.objs.size + 1) scope.names (cloFrom X.env.cells scope.names [])) s3.heap.objs.size X.env)) (compPost (model X.prog X.w) X.A X.xe use Qf (.ref D) s3.heap.objs.size) { s3 with heap := pushCells (s3.heap.push { cls := .type "dict", data := .dict #[] }) scope.names }
 have nfp : ∀ b ∈ fp, (upd H2 D (.lst [])) b = none := fun b hb => (f3 b hb).1.1
 generalize hce : compEnvC scope (cellsFrom (s3.heap.objs.size + 1) scope.names (cloFrom X.env.cells scope.names [])) s3.heap.objs.size X.env = ce at I4 pg pt pe ⊢
 have cL : ce.locals = s3.heap.objs.size := by subst hce; rfl
 generalize hH3 : upd H2 D (.lst []) = H3 at I3 I4 pg pt pe w0 nfp f3
 generalize hs4 : ({ s3 with heap := pushCells (s3.heap.push { cls := .type "dict", data := .dict #[] }) scope.names } : Shared) = s4 at I4 ⊢
 have st4 : tn 0 s4.heap := T.keep _ _ _ st3 fun b _ o e => by rw [← hs4]; exact pushCells_keeps _ _ _ _ (Heap.get?_push_of_some _ e)
 have stat : ∀ {σ' : St} {H' : Hp} {s' : Shared}, Inv (X.blk s3 H3 scope ce fp) [] σ' H' s' → (∀ b ∈ fp, H' b = none) → ∀ b ∈ fp, FpOk (X.blk s3 H3 scope ce fp) [] H' b := fun {σ' H' s'} I' hn b hb =>
   ⟨hn b hb, (I'.ok.exf b hb).1, I'.ok.exfs b hb, .inl hb, fun x c e => (I'.ok.exf b hb).2 x c e, fun p hp => absurd (show p ∈ ([] : List (Addr × Obj)) ++ [] from hp) (by simp)⟩
 have loop : codeAny (model X.prog X.w) X.A (.compLoop (.ListComp elt [⟨tg, iter, ifs, 0⟩] scope pos) 0 (.ref it) (.ref D) ce) (compPost (model X.prog X.w) X.A X.xe use Qf (.ref D) s3.heap.objs.size) s4 := by
   refine compLoop_any (fun n s' => ∃ i H', Inv (X.blk s3 H3 scope ce fp) [] (wipe σ (own.map (·.2))) H' s' ∧ tn i s'.heap ∧ (∀ b ∈ fp, H' b = none) ∧ W i n H') ?_ m0 ⟨0, H3, I4, st4, nfp, w0⟩
   rintro n s5 ⟨i, H5, I5, st5, n5, w5⟩
   rcases turn i n H5 w5 with ⟨stop, qq⟩ | ⟨go, Nx, hNx, step⟩
   · have td := T.done (X.blk s3 H3 scope ce fp) rfl rfl rfl hc i [] s5 _ H5 (fun _ _ => False) I5 (stat I5 n5) st5 stop
     refine thnF td fun r s6 ⟨hr, I6⟩ => ?_
     subst hr
     -- back in the def's context
     have I7 : Inv X pins σ H5 s6 := I3.call' (ch := fp) I6.os I6.base I6.hok I6.bare fun b hb => ⟨(f3 b hb).1.2.2.2.1, (f3 b hb).1.2.1, (f3 b hb).1.2.2.2.2.1, (f3 b hb).1.2.2.2.2.2⟩
     have nC : H5 s3.heap.objs.size = none := by
       have z : H5 ce.locals = none := I6.free
       rw [cL] at z
       exact z
     obtain ⟨m, hn, _⟩ := I6.loc
     have hn : s6.heap.Ns ce.locals m := hn
     rw [cL] at hn
     exact hRR D s3.heap.objs.size s6 m H5 I7 qq hn (I3.fpOk (Nat.le_refl _) nC)
   · have ti := T.item (X.blk s3 H3 scope ce fp) rfl rfl rfl hc i [] s5 _ H5 (fun _ _ => False) I5 (stat I5 n5) st5 go
     refine thnF ti fun r s6 ⟨u, hr, h6⟩ => ?_
     subst hr
     refine thnF h6 fun _ s7 ⟨x, H7, I7, r7, y7, st7, n7⟩ => ?_
     have I7' := I7.pinned (stat I7 n7) (T.obj _ _ st7)
     refine thnF (pg _ s7 _ H7 x u _ I7' r7 (step x H7 y7)) fun _ s8 ⟨σ8, H8, I8, hw8, q8⟩ => ?_
     refine thnF (pt _ s8 σ8 H8 _ I8 q8) fun b s9 ⟨H9, I9, q9⟩ => ?_
     -- the turn's end
     have fin : ∀ {s' : Shared} {H' : Hp}, Inv (X.blk s3 H3 scope ce fp) ([] ++ pinsAt fp s7.heap) σ8 H' s' → Nx H' → ∃ m, m < n ∧ ∃ i H', Inv (X.blk s3 H3 scope ce fp) [] (wipe σ (own.map (·.2))) H' s' ∧ tn i s'.heap ∧ (∀ b ∈ fp, H' b = none) ∧ W i m H' := fun {s' H'} I' nx => by
       obtain ⟨m', hm, w'⟩ := hNx H' nx
       have pin' : ∀ b ∈ fp, ∀ o, s7.heap.get? b = some o → s'.heap.get? b = some o ∧ H' b = none := fun b hb o e =>
         let z := I'.pin (b, o) (List.mem_append_right _ (List.mem_append_right _ (mem_pinsAt hb e)))
         ⟨z.1, z.2.1⟩
       have hl : (wipe σ (own.map (·.2))).length = σ8.length := by rw [← hw8, wipe_length]
       refine ⟨m', hm, i + 1, H', (I'.unpinned (pins := [])).weak hl (fun j v e => ?_), T.keep _ _ _ st7 fun b hb o e => (pin' b hb o e).1, fun b hb => ?_, w'⟩
       · rw [← hw8] at e
         exact (wipe_some e).1
       · obtain ⟨o, e, _⟩ := T.obj _ _ st7 b hb
         exact (pin' b hb o e).2
     cases b with
     | false =>
       simp only [Bool.false_eq_true, if_false] at q9 ⊢
       exact fin I9 q9
     | true =>
       simp only [if_true] at q9 ⊢
       refine thnF (pe _ s9 σ8 H9 _ I9 q9) fun z s10 ⟨yv, H10, I10, r10, acc, hD10, hz10, nx⟩ => ?_
       exact app_ok (X := X.blk s3 H3 scope ce fp) I10 hD10 hz10 r10 fun s11 I11 => fin I11 nx
 exact codeAny_compStart_list loop (T.self X.A 0 _ _ _ st4 loop)
theorem pe_lc {elt tg iter : Expr} {ifs : List Expr} {scope : Scope} {own : List (Str × Nat)} {pos : Pos} {wi : TI} {g : TG} {tt : TT} {te : TE} (hc : X.calm = true) (hN : X.N.Nodup) (hi : PI X tg iter wi) (ok : BlkOk X.N X.env.scope scope own)
   (hg : ∀ (s : Shared) (H : Hp) (C : Addr) (cl : List (Str × Addr)) (fp : List Addr), PG (X.blk s H scope (compEnvC scope cl C X.env) fp) tg g) (ht : ∀ (s : Shared) (H : Hp) (C : Addr) (cl : List (Str × Addr)) (fp : List Addr), PTs (X.blk s H scope (compEnvC scope cl C X.env) fp) ifs tt)
   (he : ∀ (s : Shared) (H : Hp) (C : Addr) (cl : List (Str × Addr)) (fp : List Addr), PE (X.blk s H scope (compEnvC scope cl C X.env) fp) elt te) (hs : ∀ x, foldedSetIterable iter X.env x = pure x := by intro _; rfl) :
   PE X (.ListComp elt [⟨tg, iter, ifs, 0⟩] scope pos) (tLc wi g tt te (own.map (·.2))) := by
 intro pins s σ H Q I h
 rw [eval_ListComp]
 refine lc_core hc hN I hi ok hg ht he hs h fun D C s' m H' I' q hn f => ⟨m, hn, fun h'' sb => ?_⟩
 obtain ⟨f0, f1, f2, f3, f4, f5⟩ := f
 exact ⟨.ref D, H', I'.turned (t' := s'.toks) (fun b o hb e => (sb.2 b hb).trans e) f0 f1 f3 f4 f5, rfl, q⟩
theorem ps_setLc {i : Nat} {y : Str} {py : Pos} {elt tg iter : Expr} {ifs : List Expr} {scope : Scope} {own : List (Str × Nat)} {pos spos : Pos} {wi : TI} {g : TG} {tt : TT} {te : TE} (hc : X.calm = true) (hN : X.N.Nodup) (hy : X.N[i]? = some y) (hyl : X.env.scope.names.lookup y = some .local)
   (hsw : swapsWith (.ListComp elt [⟨tg, iter, ifs, 0⟩] scope pos) (some (.Name y py)) spos.line X.env = pure true) (hi : PI X tg iter wi) (ok : BlkOk X.N X.env.scope scope own)
   (hg : ∀ (s : Shared) (H : Hp) (C : Addr) (cl : List (Str × Addr)) (fp : List Addr), PG (X.blk s H scope (compEnvC scope cl C X.env) fp) tg g) (ht : ∀ (s : Shared) (H : Hp) (C : Addr) (cl : List (Str × Addr)) (fp : List Addr), PTs (X.blk s H scope (compEnvC scope cl C X.env) fp) ifs tt)
   (he : ∀ (s : Shared) (H : Hp) (C : Addr) (cl : List (Str × Addr)) (fp : List Addr), PE (X.blk s H scope (compEnvC scope cl C X.env) fp) elt te) (hs : ∀ x, foldedSetIterable iter X.env x = pure x := by intro _; rfl) :
   PS X (.Assign [.Name y py] (.ListComp elt [⟨tg, iter, ifs, 0⟩] scope pos) spos) (tAsg (tLc wi g tt te (own.map (·.2))) (gName i)) := by
 intro pins s σ H D I h
 rw [exec_Assign_Name_used _ _ _ _ hsw]
 refine wpAny_bind (wpAny_standAt (wpAny_bind ?_))
 show wpAny _ X.A (do let _ ← comprehension (.ListComp elt [⟨tg, iter, ifs, 0⟩] scope pos) scope X.env (firstIterPos [⟨tg, iter, ifs, 0⟩] pos) (newList []) false (eval iter X.env) (some (assign (.Name y py) X.env))) _ _ s
 have h : tLc wi g tt te (own.map (·.2)) σ H (fun x H1 => gName i x σ H1 D.nx) := h
 refine wpAny_bind (thn (lc_core (Qf := fun _ s' => SP X pins D .next s') hc hN I hi ok hg ht he hs h fun L C s' m H' I' q hn f => ?_) fun _ s' hq => wpAny_pure (wpAny_pure hq))
 show wpAny _ _ (assign (.Name y py) X.env (.ref L)) _ _ _
 refine wpAny_assign_Name (store_ok2 (v := V.ref L) I' hN hy (.inl hyl) rfl (fun s2 I2 ⟨a, sb, ha⟩ => ?_) (.inr hyl))
 obtain ⟨f0, f1, f2, f3, f4, f5⟩ := f
 have haC : C ≠ a := by
   rcases ha with z | z
   · rw [z]; exact f1
   · exact fun e => f4 y a z e.symm
 refine ⟨m, hn.sameBut sb haC, fun h3 sb3 => ?_⟩
 exact ⟨_, H', I2.turned (t' := s2.toks) (fun b o hb e => (sb3.2 b hb).trans e) f0 f1 f3 f4 f5, q⟩
theorem sw_true {elt : Expr} {gs : List Comprehension} {scope : Scope} {pos py : Pos} {y : Str} {l : Nat} {env : Env} (hk : env.scope.kind = .function) (hy : env.scope.names.lookup y = some .local) (hl : (py.line == pos.line) = true)
   (ha : (scope.names.any fun (n, k) => n == y && (k == .local || k == .cell)) = false) : swapsWith (.ListComp elt gs scope pos) (some (.Name y py)) l env = pure true := by
 have ky : env.kindOf y = some .local := hy
 have hb : env.blockKind = .function := by unfold Env.blockKind; rw [hk]; rfl
 unfold swapsWith
 simp only [hb, ky, ha, Expr.pos, hl]
 rfl
end
theorem lc_range {lo : Int} {n : Nat} {g : TG} {tt : TT} {te : TE} {vs : List Nat} {σ : St} {H1 : Hp} {D : Addr} {Qd : Hp → Prop} (Pv : Nat → Hp → Prop) (h0 : Pv 0 (upd H1 D (.lst [])))
   (hs : ∀ i H, i < n → Pv i H → g (.int (lo + i)) (wipe σ vs) H fun σ2 H2 => wipe σ2 vs = wipe σ vs ∧ tt σ2 H2 fun b H3 =>
     if b = true then te σ2 H3 fun y H4 => ∃ acc, H4 D = some (.lst acc) ∧ acc.length < sizeLine ∧ Pv (i + 1) (upd H4 D (.lst (acc ++ [y]))) else Pv (i + 1) H3) (hd : ∀ H, Pv n H → Qd H) :
   ∃ W : Nat → Nat → Hp → Prop, (∃ m, W 0 m (upd H1 D (.lst []))) ∧ ∀ i m H, W i m H →
     ((Itr lo n).stop i H ∧ Qd H) ∨ ((Itr lo n).go i H ∧ ∃ Nx : Hp → Prop, (∀ H', Nx H' → ∃ m', m' < m ∧ W (i + 1) m' H') ∧ ∀ x H', (Itr lo n).yld i H x H' → g x (wipe σ vs) H' fun σ2 H2 => wipe σ2 vs = wipe σ vs ∧ tt σ2 H2 fun b H3 =>
       if b = true then te σ2 H3 fun y H4 => ∃ acc, H4 D = some (.lst acc) ∧ acc.length < sizeLine ∧ Nx (upd H4 D (.lst (acc ++ [y]))) else Nx H3) := by
 refine ⟨fun i m H => m = n - i ∧ i ≤ n ∧ Pv i H, ⟨n, by simp, Nat.zero_le _, h0⟩, ?_⟩
 rintro i m H ⟨rfl, hi, p⟩
 by_cases hlt : i < n
 · refine .inr ⟨hlt, Pv (i + 1), fun H' p' => ⟨n - (i + 1), by omega, rfl, hlt, p'⟩, fun x H' y => ?_⟩
   obtain ⟨e, y⟩ := y
   subst e y
   exact hs i _ hlt p
 · have e : i = n := by omega
   subst e
   exact .inl ⟨Nat.le_refl _, hd H p⟩
theorem lc_list {K : PySem.W.Frag} {a : Addr} {xs : List V} {g : TG} {tt : TT} {te : TE} {vs : List Nat} {σ : St} {H1 : Hp} {D : Addr} {Qd : Hp → Prop} (Pv : Nat → Hp → Prop) (h0 : Pv 0 (upd H1 D (.lst []))) (hl : ∀ i H, i ≤ xs.length → Pv i H → SqL K H a xs)
   (hs : ∀ i x H, xs[i]? = some x → Pv i H → g x (wipe σ vs) H fun σ2 H2 => wipe σ2 vs = wipe σ vs ∧ tt σ2 H2 fun b H3 =>
     if b = true then te σ2 H3 fun y H4 => ∃ acc, H4 D = some (.lst acc) ∧ acc.length < sizeLine ∧ Pv (i + 1) (upd H4 D (.lst (acc ++ [y]))) else Pv (i + 1) H3) (hd : ∀ H, Pv xs.length H → Qd H) :
   ∃ W : Nat → Nat → Hp → Prop, (∃ m, W 0 m (upd H1 D (.lst []))) ∧ ∀ i m H, W i m H →
     ((Itl K a).stop i H ∧ Qd H) ∨ ((Itl K a).go i H ∧ ∃ Nx : Hp → Prop, (∀ H', Nx H' → ∃ m', m' < m ∧ W (i + 1) m' H') ∧ ∀ x H', (Itl K a).yld i H x H' → g x (wipe σ vs) H' fun σ2 H2 => wipe σ2 vs = wipe σ vs ∧ tt σ2 H2 fun b H3 =>
       if b = true then te σ2 H3 fun y H4 => ∃ acc, H4 D = some (.lst acc) ∧ acc.length < sizeLine ∧ Nx (upd H4 D (.lst (acc ++ [y]))) else Nx H3) := by
 refine ⟨fun i m H => m = xs.length - i ∧ i ≤ xs.length ∧ Pv i H, ⟨xs.length, by simp, Nat.zero_le _, h0⟩, ?_⟩
 rintro i m H ⟨rfl, hi, p⟩
 have q := hl i H hi p
 by_cases hlt : i < xs.length
 · refine .inr ⟨⟨xs, xs[i], q, by simp [hlt]⟩, Pv (i + 1), fun H' p' => ⟨xs.length - (i + 1), by omega, rfl, hlt, p'⟩, fun x H' y => ?_⟩
   obtain ⟨e, y⟩ := y
   subst e
   exact hs i x _ (y xs q) p
 · have e : i = xs.length := by omega
   subst e
   exact .inl ⟨⟨xs, q, Nat.le_refl _⟩, hd H p⟩
theorem lc_tup {K : PySem.W.Frag} {a : Addr} {xs : List V} {g : TG} {tt : TT} {te : TE} {vs : List Nat} {σ : St} {H1 : Hp} {D : Addr} {Qd : Hp → Prop} (Pv : Nat → Hp → Prop) (h0 : Pv 0 (upd H1 D (.lst []))) (hl : ∀ i H, i ≤ xs.length → Pv i H → SqT K H a xs)
   (hs : ∀ i x H, xs[i]? = some x → Pv i H → g x (wipe σ vs) H fun σ2 H2 => wipe σ2 vs = wipe σ vs ∧ tt σ2 H2 fun b H3 =>
     if b = true then te σ2 H3 fun y H4 => ∃ acc, H4 D = some (.lst acc) ∧ acc.length < sizeLine ∧ Pv (i + 1) (upd H4 D (.lst (acc ++ [y]))) else Pv (i + 1) H3) (hd : ∀ H, Pv xs.length H → Qd H) :
   ∃ W : Nat → Nat → Hp → Prop, (∃ m, W 0 m (upd H1 D (.lst []))) ∧ ∀ i m H, W i m H →
     ((Itt K a).stop i H ∧ Qd H) ∨ ((Itt K a).go i H ∧ ∃ Nx : Hp → Prop, (∀ H', Nx H' → ∃ m', m' < m ∧ W (i + 1) m' H') ∧ ∀ x H', (Itt K a).yld i H x H' → g x (wipe σ vs) H' fun σ2 H2 => wipe σ2 vs = wipe σ vs ∧ tt σ2 H2 fun b H3 =>
       if b = true then te σ2 H3 fun y H4 => ∃ acc, H4 D = some (.lst acc) ∧ acc.length < sizeLine ∧ Nx (upd H4 D (.lst (acc ++ [y]))) else Nx H3) := by
 refine ⟨fun i m H => m = xs.length - i ∧ i ≤ xs.length ∧ Pv i H, ⟨xs.length, by simp, Nat.zero_le _, h0⟩, ?_⟩
 rintro i m H ⟨rfl, hi, p⟩
 have q := hl i H hi p
 by_cases hlt : i < xs.length
 · refine .inr ⟨⟨xs, xs[i], q, by simp [hlt]⟩, Pv (i + 1), fun H' p' => ⟨xs.length - (i + 1), by omega, rfl, hlt, p'⟩, fun x H' y => ?_⟩
   obtain ⟨e, y⟩ := y
   subst e
   exact hs i x _ (y xs q) p
 · have e : i = xs.length := by omega
   subst e
   exact .inl ⟨⟨xs, q, Nat.le_refl _⟩, hd H p⟩
def blkC (N : List Str) (sc scope : Scope) (own : List (Str × Nat)) : Bool :=
 (match scope.kind with | .function => true | _ => false) && (scope.names.all fun y => decide (scope.names.lookup y.1 = some y.2)) && (own.all fun p => decide (N[p.2]? = some p.1)) &&
   (scope.names.all fun y => match y.2 with
     | .free => (match sc.names.lookup y.1 with | some .cell => true | some .free => true | _ => false)
     | .local => decide (y.1 ∈ own.map (·.1)) || decide (y.1 ∉ N)
     | .cell => decide (y.1 ∈ own.map (·.1)) || decide (y.1 ∉ N)
     | _ => true)
theorem blkOk_by {N : List Str} {sc scope : Scope} {own : List (Str × Nat)} (h : blkC N sc scope own = true) : BlkOk N sc scope own := by
 unfold blkC at h
 simp only [Bool.and_eq_true, List.all_eq_true, decide_eq_true_eq] at h
 obtain ⟨⟨⟨h1, h2⟩, h3⟩, h4⟩ := h
 refine ⟨?_, h2, h3, fun y hy e => ?_, fun y hy e => ?_⟩
 · split at h1
   · assumption
   · cases h1
 · have q := h4 y hy
   simp only [e] at q
   split at q <;> first | exact .inl (by assumption) | exact .inr (by assumption) | cases q
 · have q := h4 y hy
   rcases e with e | e <;> (simp only [e, Bool.or_eq_true, decide_eq_true_eq] at q; exact q)
end L2
namespace L2
open PySem PySem.Spec PyProof.Rows
theorem boot_reversed5 : bootBuiltins "reversed" = some (.type "reversed") := by decide +kernel
section
variable {X : Cx}
theorem pi_one {tg : Expr} {pins : List (Addr × Obj)} {σ : St} {H : Hp} {s : Shared} {R : It → Hp → Prop} {J : It} {tn : Nat → Heap → Prop} {tk : Nat} (I : Inv X pins σ H s) (o : Obj)
   (T : Turn X.prog X.w X.K tg J [s.heap.objs.size] s.heap.objs.size tn) (st : tn 0 (s.heap.push o)) (q : R J H) : PIE X pins σ tg R (.ref s.heap.objs.size) { s with heap := s.heap.push o, toks := tk } := by
 refine ⟨s.heap.objs.size, [s.heap.objs.size], tn, J, H, rfl, I.kept fun b ob e => Heap.get?_push_of_some _ e, T, st, fun b hb => ?_, q⟩
 have e : b = s.heap.objs.size := by simpa using hb
 subst e
 exact I.fpOk (Nat.le_refl _) (I.hok.fresh (Nat.le_refl _))
end
def Itc (lo c : Int) (n : Nat) : It := ⟨fun i _ => i < n, fun i H x H' => H' = H ∧ x = .int (lo + (i : Nat) * c), fun i _ => n ≤ i⟩
theorem turn_rangeC {P : Program} {w : World} {K : PySem.W.Frag} {tg : Expr} (it : Addr) (lo c : Int) (n : Nat) : Turn P w K tg (Itc lo c n) [it] it (fun i h => IsRangeIter h it (lo + (i : Nat) * c) ((n : Int) - (i : Nat)) c) where
 mem := by simp
 obj := fun i h st b hb => by
   have e : b = it := by simpa using hb
   subst e
   exact ⟨_, st, fun v z => nomatch z⟩
 keep := fun i h h' st k => k it (by simp) _ st
 item := by
   intro X hP hw hK hc i pins s σ H E I hf st hg
   subst hP hw hK
   obtain ⟨f0, f1, f2, f3, f4, f5⟩ := hf it (by simp)
   have W := Walks.range (prog := X.prog) (w := X.w) (I.ok.hd hc) it lo c n
   refine W.item i s _ _ hg st fun v h' tk hv st' kk => ?_
   obtain ⟨t, rfl⟩ := hv
   have I1 : Inv X pins σ H { s with heap := h', toks := tk } := I.turned (fun b o hb e => kk b o (by simpa using hb) e) f0 f1 f3 f4 f5
   exact ⟨_, rfl, go_of (s := { s with heap := h', toks := tk }) (n := "range_iterator") st' rfl rfl (by decide) ⟨.int (lo + (i : Nat) * c), H, I1, ⟨t, rfl⟩, ⟨rfl, rfl⟩, st', fun b hb => (hf b hb).1⟩⟩
 done := by
   intro X hP hw hK hc i pins s σ H E I hf st hg
   subst hP hw hK
   obtain ⟨f0, f1, f2, f3, f4, f5⟩ := hf it (by simp)
   exact wpAny_pyNext_range_end (I.ok.hd hc) st (by have : n ≤ i := hg; omega) fun h' eb => ⟨rfl, I.turned (t' := s.toks) (fun b o hb e => eb b o hb e) f0 f1 f3 f4 f5⟩
 self := fun A i s Q E st h => wpAny_pyIter_rangeiter st h
def RgC (i j c : Int) (n : Nat) : Prop := c ≠ 0 ∧ c.natAbs < 1073741824 ∧ Builtin.Range.small i j c = true ∧ Builtin.Range.rangeSize i j c = n
def iRng3 (ta : TA) : TI := fun σ H R => ta σ H fun vs H1 => ∃ (i j c : Int) (n : Nat), vs = [.int i, .int j, .int c] ∧ RgC i j c n ∧ R (Itc i c n) H1
section
variable {X : Cx} {tg : Expr}
theorem pi_range3 {a b c : Expr} {ta : TA} {p pos : Pos} (hg : Gl X "range") (hm : X.mg "range" = none) (ha : PA X [a, b, c] ta)
   (hs : starEach [a, b, c] X.env = (false, eval a X.env) :: starEach [b, c] X.env := by rfl) (hpl : (backTo pos (starEach [b, c] X.env)).any (·.1) = false := by rfl) :
   PI X tg (.Call (.Name "range" p) [a, b, c] [] pos) (iRng3 ta) := by
 intro pins s σ H R I h
 refine Call_ (ld_blt I hg hm boot_range (PyProof.Rows.callWith_type1 (thn (ha pos pins s σ H _ I h) fun us s1 ⟨vs, H1, I1, r1, q1⟩ => ?_) hs hpl))
 obtain ⟨i, j, k, n, e, ⟨c0, c1, c2, c3⟩, q⟩ := q1
 subst e
 cases r1 with
 | cons r rr =>
   cases rr with
   | cons r' rr =>
     cases rr with
     | cons r'' rr =>
       cases rr
       obtain ⟨t, rfl⟩ := r
       obtain ⟨t', rfl⟩ := r'
       obtain ⟨t'', rfl⟩ := r''
       refine call_range_3 c0 ?_ (.inl (PyProof.noPylong_small c1))
       refine wpAny_pyIter_range (IsRange.new ..) c2 ?_
       have I2 : Inv X pins σ H1 { s1 with heap := s1.heap.push { cls := .type "range", data := .fields #[.int i t, .int j t', .int k t''] } } := I1.kept (t' := s1.toks) fun b o e => Heap.get?_push_of_some _ e
       refine pi_one (tk := s1.toks) I2 _ (turn_rangeC _ i k n) ?_ q
       have e1 : i + ((0 : Nat) : Int) * k = i := by simp
       have e2 : (n : Int) - ((0 : Nat) : Int) = Builtin.Range.rangeSize i j k := by rw [c3]; simp
       show IsRangeIter _ _ (i + ((0 : Nat) : Int) * k) ((n : Int) - ((0 : Nat) : Int)) k
       rw [e1, e2]
       exact Heap.get?_push_size _ rfl
end
theorem for_rangeC {lo c : Int} {n : Nat} {g : TG} {tb : TS} {D : Ends} {σ : St} {H : Hp} (Pv : Nat → St → Hp → Prop) (h0 : Pv 0 σ H)
   (hs : ∀ i σ H, i < n → Pv i σ H → g (.int (lo + (i : Nat) * c)) σ H fun σ2 H2 => tb { D with nx := Pv (i + 1), ct := Pv (i + 1), bk := D.nx } σ2 H2) (hd : ∀ σ H, Pv n σ H → D.nx σ H) :
   ∃ W : Nat → Nat → St → Hp → Prop, (∃ m, W 0 m σ H) ∧ ∀ i m σ H, W i m σ H →
     ((Itc lo c n).stop i H ∧ D.nx σ H) ∨ ((Itc lo c n).go i H ∧ ∃ N : St → Hp → Prop, (∀ σ' H', N σ' H' → ∃ m', m' < m ∧ W (i + 1) m' σ' H') ∧ ∀ x H', (Itc lo c n).yld i H x H' → g x σ H' fun σ2 H2 => tb { D with nx := N, ct := N, bk := D.nx } σ2 H2) := by
 refine ⟨fun i m σ H => m = n - i ∧ i ≤ n ∧ Pv i σ H, ⟨n, by simp, Nat.zero_le _, h0⟩, ?_⟩
 rintro i m σ H ⟨rfl, hi, p⟩
 by_cases hlt : i < n
 · refine .inr ⟨hlt, Pv (i + 1), fun σ' H' p' => ⟨n - (i + 1), by omega, rfl, hlt, p'⟩, fun x H' y => ?_⟩
   obtain ⟨e, y⟩ := y
   subst e y
   exact hs i σ _ hlt p
 · have e : i = n := by omega
   subst e
   exact .inl ⟨Nat.le_refl _, hd σ H p⟩
def Itv (K : PySem.W.Frag) (a : Addr) (n : Nat) : It :=
 ⟨fun i H => i < n ∧ ∃ (xs : List V) (x : V), SqL K H a xs ∧ xs[n - 1 - i]? = some x, fun i H x H' => H' = H ∧ ∀ xs, SqL K H a xs → xs[n - 1 - i]? = some x, fun i _ => n ≤ i⟩
theorem turn_rev {P : Program} {w : World} {K : PySem.W.Frag} {tg : Expr} (a it : Addr) (n : Nat) : Turn P w K tg (Itv K a n) [it] it (fun i h => i ≤ n ∧ h.IsRevIter it a ((n : Int) - 1 - (i : Nat))) where
 mem := by simp
 obj := fun i h st b hb => by
   have e : b = it := by simpa using hb
   subst e
   obtain ⟨_, o, e, c, d⟩ := st
   exact ⟨o, e, fun v z => by rw [d] at z; cases z⟩
 keep := fun i h h' st k => ⟨st.1, st.2.at fun o e => k it (by simp) o e⟩
 item := by
   intro X hP hw hK hc i pins s σ H E I hf st hg
   subst hP hw hK
   obtain ⟨hin, xs, x, hq, hx⟩ := hg
   obtain ⟨its, rv, p, hz⟩ := I.list hq
   obtain ⟨u, hu, ru⟩ := rv.get hx
   obtain ⟨f0, f1, f2, f3, f4, f5⟩ := hf it (by simp)
   obtain ⟨_, hit⟩ := st
   have e1 : (n : Int) - 1 - ((i : Nat) : Int) = ((n - 1 - i : Nat) : Int) := by omega
   rw [e1] at hit
   refine wpAny_pyNext_rev_item hit p.isList (x := u) (by simpa using hu) fun h' st' sb => ?_
   have e2 : ((n - 1 - i : Nat) : Int) - 1 = (n : Int) - 1 - ((i + 1 : Nat) : Int) := by omega
   rw [e2] at st'
   have I1 : Inv X pins σ H { s with heap := h' } := I.turned (t' := s.toks) (fun b o hb e => (sb.2 b hb).trans e) f0 f1 f3 f4 f5
   obtain ⟨o, e, c, d⟩ := id st'
   exact ⟨u, rfl, go_of (s := { s with heap := h' }) e c d (by decide) ⟨x, H, I1, ru, ⟨rfl, fun ys hy => by rw [I.list_inj hy hq]; exact hx⟩, ⟨hin, st'⟩, fun b hb => (hf b hb).1⟩⟩
 done := by
   intro X hP hw hK hc i pins s σ H E I hf st hg
   subst hP hw hK
   obtain ⟨f0, f1, f2, f3, f4, f5⟩ := hf it (by simp)
   obtain ⟨hin, hit⟩ := st
   have hge : n ≤ i := hg
   have e1 : (n : Int) - 1 - ((i : Nat) : Int) = -1 := by omega
   rw [e1] at hit
   exact wpAny_pyNext_rev_end (I.ok.hd hc) hit fun h' eb => ⟨rfl, I.turned (t' := s.toks) (fun b o hb e => eb b o hb e) f0 f1 f3 f4 f5⟩
 self := fun A i s Q E st h => wpAny_pyIter_revIter st.2 h
def iRev (K : PySem.W.Frag) (ta : TA) : TI := fun σ H R => ta σ H fun vs H1 => ∃ (a : Addr) (xs : List V), vs = [.ref a] ∧ SqL K H1 a xs ∧ R (Itv K a xs.length) H1
section
variable {X : Cx} {tg : Expr}
theorem pi_reversed {e : Expr} {ta : TA} {p pos : Pos} (hg : Gl X "reversed") (hm : X.mg "reversed" = none) (ha : PA X [e] ta) (hs : starEach [e] X.env = [(false, eval e X.env)] := by rfl) : PI X tg (.Call (.Name "reversed" p) [e] [] pos) (iRev X.K ta) := by
 intro pins s σ H R I h
 refine Call_ (ld_blt I hg hm boot_reversed5 (PyProof.Rows.callWith_type1 (thn (ha pos pins s σ H _ I h) fun us s1 ⟨vs, H1, I1, r1, q1⟩ => ?_) hs rfl))
 obtain ⟨a, xs, e, hq, q⟩ := q1
 subst e
 cases r1 with
 | cons r rr =>
   cases rr
   cases r
   obtain ⟨its, rv, p', hz⟩ := I1.list hq
   have hl := rv.length
   have e1 : ((its.toArray.size : Nat) : Int) - 1 = (xs.length : Int) - 1 - ((0 : Nat) : Int) := by simp only [List.size_toArray]; omega
   refine call_reversed_list p'.isList (wpAny_pyIter_revIter (l := a) (i := ((its.toArray.size : Nat) : Int) - 1) ⟨_, Heap.get?_push_size _ rfl, rfl, rfl⟩ ?_)
   refine pi_one (tk := s1.toks) I1 _ (turn_rev a _ xs.length) ⟨Nat.zero_le _, ?_⟩ q
   rw [← e1]
   exact ⟨_, Heap.get?_push_size _ rfl, rfl, rfl⟩
end
end L2
/- THE LAST THEOREM (shape; LID, My.* are yours):
  My.Adr: a structure of the addresses that your layer names (classes, functions); My.Txt K t: a structure (Prop) of the equations over K;
  My.txt_mk : {K} {implicit addresses ..} (e1 : nsIn K mainGlobals "law" = some (some (.ref f))) (e2 : K.lookup f = some ⟨oc, od, .func (fnOf "law" "law" params body scope dV kV doc pm an cdv ct), sl⟩) (e3 : codeIn K cdv "law" = true) .. : ∃ t, My.Txt K t
set_option maxRecDepth 100000 in
set_option maxHeartbeats 0 in
theorem PySem.Challenge.cw_LID_holds : PySem.Challenge.rw_LID.Holds := by
 w_on; o_law; k_head; (case hw => w_witness2)
 k_fill
 refine L2.walk_of (l := PySem.Challenge.rw_LID) (n := 63) (k := 40) (x := "script") (CX := fun w => ..) (sp := fun _ => My.sp_law) rfl (by decide) rfl ⟨rfl, by decide, by decide⟩ (fun w h Y => PySem.W.kIn_of Y) ?F ?S ?C
 case F =>
   intro w mg fa h KX G hmg
   have T : ∃ t, My.Txt (L2.KOf KX) t := by
     dsimp only [L2.KOf]                          -- K must stand as «<heap const> w.params» for k_is
     refine' My.txt_mk ?e1 ?e2 ?e3 ..
     (case e1 => PySem.W.k_is)                    -- in the order: a name -> its address -> its object -> its parts
     (case e2 => PySem.W.k_is)
     ..
   obtain ⟨t, T⟩ := T
   have e0 := hmg.symm.trans (PySem.W.mg_of KX G T.law)
   cases e0                                       -- fa is the law's own address
   exact ⟨_, fun s u => .of_eq rfl, fun base kb nb => My.law_fn T kb nb⟩     -- if «.of_eq rfl» comes too early: refine' ⟨_, ?b, fun base kb nb => My.law_fn T kb nb⟩; exact fun s u => .of_eq rfl
 case S => exact fun w H a ns hl hO hS => ..
 case C => exact ..
(the tactic k_is has no namespace: write k_is) -/
namespace L2
open PySem PySem.Spec PyProof.Rows
def inClass (s : Stmt) (j : Nat) : Stmt := match s with
 | .ClassDef _ _ _ body _ _ _ _ _ _ _ => body.getD j (.Pass ⟨0, 0, 0, 0⟩)
 | _ => .Pass ⟨0, 0, 0, 0⟩
def defArgs (s : Stmt) : Arguments := match s with
 | .FunctionDef _ a _ _ _ _ _ _ _ _ => a
 | _ => { posonlyargs := [], args := [], vararg := none, kwonlyargs := [], kw_defaults := [], kwarg := none, defaults := [] }
def defBody (s : Stmt) : List Stmt := match s with
 | .FunctionDef _ _ b _ _ _ _ _ _ _ => b
 | _ => []
def defScope (s : Stmt) : Scope := match s with
 | .FunctionDef _ _ _ _ _ _ sc _ _ _ => sc
 | _ => { kind := .function, names := [], isGenerator := false, isCoroutine := false }
abbrev CX0 : CXT := fun _ _ _ _ _ _ => False
abbrev E0 : XK := fun _ _ _ => False
theorem pass0 {X : Cx} : Passes CX0 X E0 := fun _ _ _ _ _ _ _ h => h.elim
structure Fun (K : PySem.W.Frag) (x qual : Str) (st : Stmt) (f : Addr) (fd : FuncData) : Prop where
 ex : ∃ (oc : Value) (od : Option Addr) (kV doc pm : Value) (an : Option Addr) (cdv ct : Value) (osl : Array (Option Value)),
   fd = PySem.W.fnOf x qual (defArgs st) (defBody st) (defScope st) .none kV doc pm an cdv ct ∧ K.lookup f = some ⟨oc, od, .func fd, osl⟩ ∧ PySem.W.codeIn K cdv qual = true
 kp : PySem.W.keepIn K (.ref f) = true
section
variable {P : Program} {w : World} {K : PySem.W.Frag} {mg : Str → Option Value} {base : Heap}
theorem Fun.ok {x qual : Str} {st : Stmt} {f : Addr} {fd : FuncData} {N ps : List Str} {k : Nat} {sp : Sp} (F : Fun K x qual st f fd) (S : FnScope N ps (defScope st)) (len : ∀ vs H Q E, sp vs H Q E → vs.length = ps.length)
   (hbody : ∀ (cdv : Value) (A : Around) (outer : List Env) (s : Shared) (H : Hp) (vs : List V) (Q : VK) (E : XK), Room k (A.deeper (envOfC qual (defScope st) s.heap.objs.size f cdv)) → sp vs H Q E →
     ∃ t, PSs (cxOf CX0 P w K mg base N qual (defScope st) f cdv A outer s H E).nox (defBody st) t ∧ t { nx := fun _ H' => Q .non H', rt := Q } (start N vs) H) : FnOk P w K mg base CX0 (k + 1) f fd ps sp := by
 obtain ⟨oc, od, kV, doc, pm, an, cdv, ct, osl, rfl, lk, hcd⟩ := F.ex
 refine fn_of lk hcd S len fun A outer s H vs Q E hr hsp => ?_
 obtain ⟨t, h, q⟩ := hbody cdv A outer s H vs Q E hr hsp
 exact ⟨t, h.nox, q⟩
theorem Fun.binds {x qual : Str} {st : Stmt} {f : Addr} {fd : FuncData} {ps : List Str} (F : Fun K x qual st f fd)
   (h : ∀ (kV doc pm : Value) (an : Option Addr) (cdv ct : Value) (us : List Value), us.length = ps.length → bindArgs (PySem.W.fnOf x qual (defArgs st) (defBody st) (defScope st) .none kV doc pm an cdv ct) ⟨us, []⟩ = pure (ps.zip us)) : Binds K fd ps [] := by
 obtain ⟨oc, od, kV, doc, pm, an, cdv, ct, osl, rfl, lk, hcd⟩ := F.ex
 exact .all (h kV doc pm an cdv ct)
theorem fun_mk {x qual : Str} {st : Stmt} {f : Addr} {oc : Value} {od an : Option Addr} {osl : Array (Option Value)} {kV doc pm cdv ct : Value} (l : K.lookup f = some ⟨oc, od, .func (PySem.W.fnOf x qual (defArgs st) (defBody st) (defScope st) .none kV doc pm an cdv ct), osl⟩)
   (c : PySem.W.codeIn K cdv qual = true) (k : PySem.W.keepIn K (.ref f) = true) : Fun K x qual st f (PySem.W.fnOf x qual (defArgs st) (defBody st) (defScope st) .none kV doc pm an cdv ct) := ⟨⟨oc, od, kV, doc, pm, an, cdv, ct, osl, rfl, l, c⟩, k⟩
end
theorem small1000 {n : Nat} (h : n ≤ 1000) : n < sizeLine := Nat.lt_of_le_of_lt h (by decide)
section
variable {X : Cx}
theorem pv (i : Nat) {x : Str} {pos : Pos} (hN : X.N[i]? = some x := by rfl) (hv : Vis X.env.scope x := by first | exact Or.inl rfl | exact Or.inr (Or.inl rfl) | exact Or.inr (Or.inr rfl)) (hd : (x == ("__debug__" : Str)) = false := by decide)
   (hcd : (x == ("__classdict__" : Str)) = false := by decide) : PE X (.Name x pos) (tVar i) := pe_var hN hv hd hcd
end
theorem iteF {A B : Prop} (h : B) : if false = true then A else B := by
 rw [if_neg Bool.false_ne_true]
 exact h
theorem iteT {A B : Prop} (h : A) : if true = true then A else B := by
 rw [if_pos rfl]
 exact h
theorem ite2 {c A B : Prop} [Decidable c] (h1 : c → A) (h2 : ¬ c → B) : if c then A else B := by
 by_cases h : c
 · rw [if_pos h]
   exact h1 h
 · rw [if_neg h]
   exact h2 h
def Same (H H' : Hp) : Prop := ∀ b o, H b = some o → H' b = some o
theorem Same.refl (H : Hp) : Same H H := fun _ _ h => h
theorem Same.trans {H H1 H2 : Hp} (a : Same H H1) (b : Same H1 H2) : Same H H2 := fun c o h => b c o (a c o h)
theorem Same.free {H H' : Hp} (e : Same H H') {l : Addr} (h : H' l = Option.none) : H l = Option.none := by
 cases q : H l with
 | none => rfl
 | some o =>
   rw [e l o q] at h
   cases h
theorem Same.seq {K : PySem.W.Frag} {H H' : Hp} {a : Addr} {xs : List V} (e : Same H H') (h : SqL K H a xs) : SqL K H' a xs := by
 rcases h with (h | ⟨o, h⟩) | h
 · exact .inl (.inl (e _ _ h))
 · exact .inl (.inr ⟨o, e _ _ h⟩)
 · exact .inr h
theorem at_of {xs : List V} {z : Int} {j : Nat} {v : V} (e : z = (j : Int)) (h : xs[j]? = some v) : atI xs z = some v := by
 rw [e]
 exact atI_nat h
theorem Same.made {H H1 : Hp} {x dx C : Addr} (nx : H x = Option.none) (nd : H dx = Option.none) (k : ∀ b o, (upd (upd H dx (.own x)) x (.ins C dx [])) b = some o → b ≠ x → H1 b = some o) : Same H H1 := fun b o e =>
 k b o (by rw [upd_ne (ne_of_none e nx), upd_ne (ne_of_none e nd)]; exact e) (ne_of_none e nx)
end L2
namespace SPx
open PySem PySem.Spec PyProof.Rows L2
def top (i : Nat) : Stmt := PySem.Challenge.pw_softport_s01_answers.main.body.getD i (.Pass ⟨0, 0, 0, 0⟩)
end SPx
namespace SPx
open PySem PySem.Spec PyProof.Rows L2 PySem.W
abbrev fO (x q : Str) (st : Stmt) (m : Str) (t c : Nat) : Obj := ⟨.type "function", none, .func (fnOf x q (defArgs st) (defBody st) (defScope st) .none .none .none (.str m t) none (.ref c) .none), #[]⟩
abbrev cO (x : Str) (t1 : Nat) (q : Str) (t2 t3 a b c d e r1 r2 r3 r4 r5 f g t4 : Nat) : Obj := ⟨.type "code", none, .fields #[.str x t1, .str q t2, .str "/claim/cut.py" t3, .int a 0, .int b 0, .int c 0, .int d 0, .int e 0, .ref r1, .bool true, .int 181 0, .ref r2, .none, .ref r3, .ref r4, .ref r5, .int f 0, .int g 0, .str "/claim/cut.py" t4], #[]⟩
abbrev cN (x : Str) (t1 : Nat) (q : Str) (t2 t3 a b c d e r1 r2 r5 f g t4 : Nat) : Obj := ⟨.type "code", none, .fields #[.str x t1, .str q t2, .str "/claim/cut.py" t3, .int a 0, .int b 0, .int c 0, .int d 0, .int e 0, .ref r1, .bool true, .int 181 0, .ref r2, .none, .none, .none, .ref r5, .int f 0, .int g 0, .str "/claim/cut.py" t4], #[]⟩
abbrev dE (P : Params) (x : Str) (t : Nat) (v : Value) : DictEntry := ⟨PyData.keyHash P x, .str x t, v⟩
noncomputable def heapK (P : Params) : Frag :=
(nat_lit 3, { cls := .type "dict", data := .dict #[dE P "__name__" 165 (.str "softport.desk" 1203), dE P "__doc__" 166 (.none), dE P "__package__" 167 (.none), dE P "__loader__" 168 (.builtin "__main__.__loader__#opaque"), dE P "__spec__" 169 (.none), dE P "__annotations__" 170 (.ref 6), dE P "__builtins__" 171 (.ref 4), dE P "__file__" 173 (.str "/claim/cut.py" 172), dE P "__cached__" 174 (.none), dE P "FASTEST" 190 (.int 3 189), dE P "SPEED_COUNT" 192 (.int 49 191), dE P "BURNS" 217 (.ref 24), dE P "is_speed" 225 (.ref 31), dE P "speed_number" 233 (.ref 38), dE P "speed_parts" 240 (.ref 45), dE P "burns_at" 246 (.ref 50), dE P "less_than" 252 (.ref 55), dE P "behind_burn" 260 (.ref 62), dE P "behind_tick" 270 (.ref 69), dE P "Field" 350 (.ref 114), dE P "WAYS" 363 (.ref 123), dE P "WIDEST" 365 (.int 32 364), dE P "MOST_BOXES" 367 (.int 8 366), dE P "Chart" 416 (.ref 154), dE P "boxes_in" 422 (.ref 163), dE P "is_chart_as_told" 428 (.ref 168), dE P "is_box_within" 437 (.ref 175), dE P "is_port_as_told" 448 (.ref 182), dE P "is_in_a_box" 454 (.ref 187), dE P "Drifts" 499 (.ref 214), dE P "harmless_places" 510 (.ref 225), dE P "touching_soon" 523 (.ref 232), dE P "touching_ever" 534 (.ref 239), dE P "coming_to_port" 545 (.ref 246), dE P "MESSAGE_LENGTH" 549 (.int 8 548), dE P "ORDER" 551 (.int 1 550), dE P "ANSWER" 553 (.int 2 552), dE P "REPORT" 555 (.int 3 554), dE P "ALONGSIDE" 557 (.int 1 556), dE P "AWAY" 559 (.int 2 558), dE P "GREATEST_WHAT" 561 (.int 5 560), dE P "GREATEST_PLACE" 563 (.int 31 562), dE P "is_order" 570 (.ref 253), dE P "is_answer" 577 (.ref 260), dE P "is_report" 584 (.ref 267), dE P "is_message" 592 (.ref 274), dE P "is_of_an_order" 599 (.ref 281), dE P "is_order_what" 606 (.ref 288), dE P "what_of" 613 (.ref 295), dE P "number_of_order" 620 (.ref 302), dE P "number_of_report" 627 (.ref 309), dE P "state_told" 634 (.ref 316), dE P "order_to" 642 (.ref 323), dE P "answer_to" 650 (.ref 330), dE P "of_an_order" 659 (.ref 337), dE P "report_of" 668 (.ref 344), dE P "report_without_state" 676 (.ref 351), dE P "low_first" 687 (.ref 358), dE P "number_from" 696 (.ref 365), dE P "sent" 703 (.ref 372), dE P "NOT_AS_TOLD" 706 (.int (-22) 705), dE P "TOO_MANY" 709 (.int (-28) 708), dE P "NO_MESSAGE" 712 (.int (-71) 711), dE P "MOST_TICKS" 716 (.int 250 715), dE P "MOST_MISFIRES" 718 (.int 7 717), dE P "SureRoutes" 782 (.ref 413), dE P "AwayRoutes" 839 (.ref 453), dE P "has_state" 848 (.ref 464), dE P "sure_levels" 854 (.ref 469), dE P "next_sure_level" 860 (.ref 474), dE P "away_levels" 866 (.ref 479), dE P "next_away_level" 872 (.ref 484), dE P "there_places" 878 (.ref 489), dE P "moves_by_speed" 884 (.ref 494), dE P "speeds_behind" 890 (.ref 499), dE P "number_behind" 898 (.ref 506), dE P "before_drift" 908 (.ref 513), dE P "places_by_burns" 924 (.ref 520), dE P "NO_BURN" 929 (.ref 521), dE P "IDLE" 931 (.int 0 930), dE P "COMING" 933 (.int 1 932), dE P "GOING" 935 (.int 2 934), dE P "HELPLESS" 937 (.int 3 936), dE P "NOT_HERE" 939 (.int 4 938), dE P "THERE" 941 (.int 5 940), dE P "Craft" 1085 (.ref 629), dE P "MOST_ORDERS" 1089 (.int 65535 1088), dE P "TICKS_BETWEEN" 1091 (.int 5 1090), dE P "PeoplesEnd" 1202 (.ref 720), dE P "CR_START" 1206 (.int 0 1205), dE P "CR_TICK" 1208 (.int 1 1207), dE P "CR_HEARD" 1210 (.int 2 1209), dE P "PE_START" 1212 (.int 4 1211), dE P "PE_ORDER" 1214 (.int 5 1213), dE P "PE_HEARD" 1216 (.int 6 1215), dE P "PE_TICK" 1218 (.int 7 1217), dE P "NUMBERS_OF" 1228 (.ref 725), dE P "HAS_ROW" 1229 (.ref 726), dE P "answers" 1245 (.ref 733), dE P "answer_call" 1256 (.ref 740), dE P "answer_of_craft" 1266 (.ref 747), dE P "answer_of_people" 1276 (.ref 754)] 102 }) ::
(nat_lit 15, { cls := .type "tuple", data := .seq #[.int 0 193, .int 0 194] }) ::
(nat_lit 16, { cls := .type "tuple", data := .seq #[.int (-1) 196, .int 0 197] }) ::
(nat_lit 17, { cls := .type "tuple", data := .seq #[.int 0 198, .int (-1) 200] }) ::
(nat_lit 18, { cls := .type "tuple", data := .seq #[.int 0 201, .int 1 202] }) ::
(nat_lit 19, { cls := .type "tuple", data := .seq #[.int 1 203, .int 0 204] }) ::
(nat_lit 20, { cls := .type "tuple", data := .seq #[.int (-1) 206, .int (-1) 208] }) ::
(nat_lit 21, { cls := .type "tuple", data := .seq #[.int (-1) 210, .int 1 211] }) ::
(nat_lit 22, { cls := .type "tuple", data := .seq #[.int 1 212, .int (-1) 214] }) ::
(nat_lit 23, { cls := .type "tuple", data := .seq #[.int 1 215, .int 1 216] }) ::
(nat_lit 24, { cls := .type "tuple", data := .seq #[.ref 15, .ref 16, .ref 17, .ref 18, .ref 19, .ref 20, .ref 21, .ref 22, .ref 23] }) ::
(nat_lit 30, cO "is_speed" 218 "is_speed" 219 220 5 2 0 0 3 25 26 27 28 29 223 5 224) ::
(nat_lit 31, fO "is_speed" "is_speed" (top 4) "softport.motion" 187 30) ::
(nat_lit 37, cO "speed_number" 226 "speed_number" 227 228 7 2 0 0 3 32 33 34 35 36 231 7 232) ::
(nat_lit 38, fO "speed_number" "speed_number" (top 5) "softport.motion" 187 37) ::
(nat_lit 44, cO "speed_parts" 234 "speed_parts" 235 236 9 1 0 0 3 39 40 41 42 43 238 9 239) ::
(nat_lit 45, fO "speed_parts" "speed_parts" (top 6) "softport.motion" 187 44) ::
(nat_lit 49, cN "burns_at" 241 "burns_at" 242 243 11 2 0 0 3 46 47 48 244 11 245) ::
(nat_lit 50, fO "burns_at" "burns_at" (top 7) "softport.motion" 187 49) ::
(nat_lit 54, cN "less_than" 247 "less_than" 248 249 13 1 0 0 3 51 52 53 250 13 251) ::
(nat_lit 55, fO "less_than" "less_than" (top 8) "softport.motion" 187 54) ::
(nat_lit 61, cO "behind_burn" 253 "behind_burn" 254 255 15 2 0 0 3 56 57 58 59 60 258 15 259) ::
(nat_lit 62, fO "behind_burn" "behind_burn" (top 9) "softport.motion" 187 61) ::
(nat_lit 68, cO "behind_tick" 261 "behind_tick" 262 263 17 2 0 0 3 63 64 65 66 67 268 17 269) ::
(nat_lit 69, fO "behind_tick" "behind_tick" (top 10) "softport.motion" 187 68) ::
(nat_lit 82, cO "__init__" 285 "Field.__init__" 286 287 24 3 0 0 3 77 78 79 80 81 291 24 292) ::
(nat_lit 83, fO "__init__" "Field.__init__" (inClass (top 12) 0) "softport.places" 271 82) ::
(nat_lit 89, cO "has" 294 "Field.has" 295 296 30 3 0 0 3 84 85 86 87 88 300 30 301) ::
(nat_lit 90, fO "has" "Field.has" (inClass (top 12) 1) "softport.places" 271 89) ::
(nat_lit 96, cO "place" 303 "Field.place" 304 305 33 3 0 0 3 91 92 93 94 95 309 33 310) ::
(nat_lit 97, fO "place" "Field.place" (inClass (top 12) 2) "softport.places" 271 96) ::
(nat_lit 103, cO "block" 312 "Field.block" 313 314 36 5 0 0 3 98 99 100 101 102 325 36 326) ::
(nat_lit 104, fO "block" "Field.block" (inClass (top 12) 3) "softport.places" 271 103) ::
(nat_lit 110, cO "before" 328 "Field.before" 329 330 47 4 0 0 3 105 106 107 108 109 336 47 337) ::
(nat_lit 111, fO "before" "Field.before" (inClass (top 12) 4) "softport.places" 271 110) ::
(nat_lit 113, { cls := .type "dict", data := .dict #[dE P "__module__" 280 (.str "softport.places" 271), dE P "__firstlineno__" 284 (.int 22 283), dE P "__init__" 293 (.ref 83), dE P "has" 302 (.ref 90), dE P "place" 311 (.ref 97), dE P "block" 327 (.ref 104), dE P "before" 338 (.ref 111), dE P "__static_attributes__" 343 (.ref 112), dE P "__dict__" 345 (.ref 115), dE P "__weakref__" 347 (.ref 116), dE P "__doc__" 348 (.none)] 4 }) ::
(nat_lit 114, { cls := .type "type", data := .cls { name := "Field", bases := [.type "object"], mro := [.ref 114, .type "object"], ns := 113, qualname := "Field" }, slots := #[none, none, some (.str "Field" 273), some (.str "Field" 281), some (.builtin "object.__new__"), some (.bool true)] }) ::
(nat_lit 119, { cls := .type "tuple", data := .seq #[.int 1 353, .int 0 354] }) ::
(nat_lit 120, { cls := .type "tuple", data := .seq #[.int 0 355, .int 1 356] }) ::
(nat_lit 121, { cls := .type "tuple", data := .seq #[.int (-1) 358, .int 0 359] }) ::
(nat_lit 122, { cls := .type "tuple", data := .seq #[.int 0 360, .int (-1) 362] }) ::
(nat_lit 123, { cls := .type "tuple", data := .seq #[.ref 119, .ref 120, .ref 121, .ref 122] }) ::
(nat_lit 136, cO "__init__" 380 "Chart.__init__" 381 382 58 3 0 0 3 131 132 133 134 135 386 58 387) ::
(nat_lit 137, fO "__init__" "Chart.__init__" (inClass (top 17) 0) "softport.chart" 351 136) ::
(nat_lit 143, cO "is_here" 389 "Chart.is_here" 390 391 64 2 0 0 3 138 139 140 141 142 394 64 395) ::
(nat_lit 144, fO "is_here" "Chart.is_here" (inClass (top 17) 1) "softport.chart" 351 143) ::
(nat_lit 150, cO "is_there" 397 "Chart.is_there" 398 399 67 2 0 0 3 145 146 147 148 149 402 67 403) ::
(nat_lit 151, fO "is_there" "Chart.is_there" (inClass (top 17) 2) "softport.chart" 351 150) ::
(nat_lit 153, { cls := .type "dict", data := .dict #[dE P "__module__" 375 (.str "softport.chart" 351), dE P "__firstlineno__" 379 (.int 56 378), dE P "__init__" 388 (.ref 137), dE P "is_here" 396 (.ref 144), dE P "is_there" 404 (.ref 151), dE P "__static_attributes__" 409 (.ref 152), dE P "__dict__" 411 (.ref 155), dE P "__weakref__" 413 (.ref 156), dE P "__doc__" 414 (.none)] 4 }) ::
(nat_lit 154, { cls := .type "type", data := .cls { name := "Chart", bases := [.type "object"], mro := [.ref 154, .type "object"], ns := 153, qualname := "Chart" }, slots := #[none, none, some (.str "Chart" 368), some (.str "Chart" 376), some (.builtin "object.__new__"), some (.bool true)] }) ::
(nat_lit 162, cN "boxes_in" 417 "boxes_in" 418 419 69 1 0 0 3 159 160 161 420 69 421) ::
(nat_lit 163, fO "boxes_in" "boxes_in" (top 18) "softport.chart" 351 162) ::
(nat_lit 167, cN "is_chart_as_told" 423 "is_chart_as_told" 424 425 71 2 0 0 3 164 165 166 426 71 427) ::
(nat_lit 168, fO "is_chart_as_told" "is_chart_as_told" (top 19) "softport.chart" 351 167) ::
(nat_lit 174, cO "is_box_within" 429 "is_box_within" 430 431 83 3 0 0 3 169 170 171 172 173 435 83 436) ::
(nat_lit 175, fO "is_box_within" "is_box_within" (top 20) "softport.chart" 351 174) ::
(nat_lit 181, cO "is_port_as_told" 438 "is_port_as_told" 439 440 85 2 0 0 3 176 177 178 179 180 446 85 447) ::
(nat_lit 182, fO "is_port_as_told" "is_port_as_told" (top 21) "softport.chart" 351 181) ::
(nat_lit 186, cN "is_in_a_box" 449 "is_in_a_box" 450 451 92 3 0 0 3 183 184 185 452 92 453) ::
(nat_lit 187, fO "is_in_a_box" "is_in_a_box" (top 22) "softport.chart" 351 186) ::
(nat_lit 198, cN "__init__" 469 "Drifts.__init__" 470 471 97 2 0 0 3 195 196 197 472 97 473) ::
(nat_lit 199, fO "__init__" "Drifts.__init__" (inClass (top 24) 0) "softport.drift" 455 198) ::
(nat_lit 205, cO "is_harmless" 475 "Drifts.is_harmless" 476 477 101 2 0 0 3 200 201 202 203 204 481 101 482) ::
(nat_lit 206, fO "is_harmless" "Drifts.is_harmless" (inClass (top 24) 1) "softport.drift" 455 205) ::
(nat_lit 210, cN "is_free" 484 "Drifts.is_free" 485 486 105 3 0 0 3 207 208 209 487 105 488) ::
(nat_lit 211, fO "is_free" "Drifts.is_free" (inClass (top 24) 2) "softport.drift" 455 210) ::
(nat_lit 213, { cls := .type "dict", data := .dict #[dE P "__module__" 464 (.str "softport.drift" 455), dE P "__firstlineno__" 468 (.int 95 467), dE P "__init__" 474 (.ref 199), dE P "is_harmless" 483 (.ref 206), dE P "is_free" 489 (.ref 211), dE P "__static_attributes__" 492 (.ref 212), dE P "__dict__" 494 (.ref 215), dE P "__weakref__" 496 (.ref 216), dE P "__doc__" 497 (.none)] 4 }) ::
(nat_lit 214, { cls := .type "type", data := .cls { name := "Drifts", bases := [.type "object"], mro := [.ref 214, .type "object"], ns := 213, qualname := "Drifts" }, slots := #[none, none, some (.str "Drifts" 457), some (.str "Drifts" 465), some (.builtin "object.__new__"), some (.bool true)] }) ::
(nat_lit 224, cO "harmless_places" 500 "harmless_places" 501 502 107 2 0 0 3 219 220 221 222 223 508 107 509) ::
(nat_lit 225, fO "harmless_places" "harmless_places" (top 25) "softport.drift" 455 224) ::
(nat_lit 231, cO "touching_soon" 511 "touching_soon" 512 513 114 2 0 0 3 226 227 228 229 230 521 114 522) ::
(nat_lit 232, fO "touching_soon" "touching_soon" (top 26) "softport.drift" 455 231) ::
(nat_lit 238, cO "touching_ever" 524 "touching_ever" 525 526 122 3 0 0 3 233 234 235 236 237 532 122 533) ::
(nat_lit 239, fO "touching_ever" "touching_ever" (top 27) "softport.drift" 455 238) ::
(nat_lit 245, cO "coming_to_port" 535 "coming_to_port" 536 537 127 2 0 0 3 240 241 242 243 244 543 127 544) ::
(nat_lit 246, fO "coming_to_port" "coming_to_port" (top 28) "softport.drift" 455 245) ::
(nat_lit 252, cO "is_order" 564 "is_order" 565 566 144 1 0 0 3 247 248 249 250 251 568 144 569) ::
(nat_lit 253, fO "is_order" "is_order" (top 38) "softport.messages" 546 252) ::
(nat_lit 259, cO "is_answer" 571 "is_answer" 572 573 146 1 0 0 3 254 255 256 257 258 575 146 576) ::
(nat_lit 260, fO "is_answer" "is_answer" (top 39) "softport.messages" 546 259) ::
(nat_lit 266, cO "is_report" 578 "is_report" 579 580 148 1 0 0 3 261 262 263 264 265 582 148 583) ::
(nat_lit 267, fO "is_report" "is_report" (top 40) "softport.messages" 546 266) ::
(nat_lit 273, cO "is_message" 585 "is_message" 586 587 154 2 0 0 3 268 269 270 271 272 590 154 591) ::
(nat_lit 274, fO "is_message" "is_message" (top 41) "softport.messages" 546 273) ::
(nat_lit 280, cO "is_of_an_order" 593 "is_of_an_order" 594 595 156 1 0 0 3 275 276 277 278 279 597 156 598) ::
(nat_lit 281, fO "is_of_an_order" "is_of_an_order" (top 42) "softport.messages" 546 280) ::
(nat_lit 287, cO "is_order_what" 600 "is_order_what" 601 602 158 1 0 0 3 282 283 284 285 286 604 158 605) ::
(nat_lit 288, fO "is_order_what" "is_order_what" (top 43) "softport.messages" 546 287) ::
(nat_lit 294, cO "what_of" 607 "what_of" 608 609 160 1 0 0 3 289 290 291 292 293 611 160 612) ::
(nat_lit 295, fO "what_of" "what_of" (top 44) "softport.messages" 546 294) ::
(nat_lit 301, cO "number_of_order" 614 "number_of_order" 615 616 162 1 0 0 3 296 297 298 299 300 618 162 619) ::
(nat_lit 302, fO "number_of_order" "number_of_order" (top 45) "softport.messages" 546 301) ::
(nat_lit 308, cO "number_of_report" 621 "number_of_report" 622 623 164 1 0 0 3 303 304 305 306 307 625 164 626) ::
(nat_lit 309, fO "number_of_report" "number_of_report" (top 46) "softport.messages" 546 308) ::
(nat_lit 315, cO "state_told" 628 "state_told" 629 630 166 1 0 0 3 310 311 312 313 314 632 166 633) ::
(nat_lit 316, fO "state_told" "state_told" (top 47) "softport.messages" 546 315) ::
(nat_lit 322, cO "order_to" 635 "order_to" 636 637 168 2 0 0 3 317 318 319 320 321 640 168 641) ::
(nat_lit 323, fO "order_to" "order_to" (top 48) "softport.messages" 546 322) ::
(nat_lit 329, cO "answer_to" 643 "answer_to" 644 645 170 2 0 0 3 324 325 326 327 328 648 170 649) ::
(nat_lit 330, fO "answer_to" "answer_to" (top 49) "softport.messages" 546 329) ::
(nat_lit 336, cO "of_an_order" 651 "of_an_order" 652 653 172 3 0 0 3 331 332 333 334 335 657 172 658) ::
(nat_lit 337, fO "of_an_order" "of_an_order" (top 50) "softport.messages" 546 336) ::
(nat_lit 343, cO "report_of" 660 "report_of" 661 662 174 3 0 0 3 338 339 340 341 342 666 174 667) ::
(nat_lit 344, fO "report_of" "report_of" (top 51) "softport.messages" 546 343) ::
(nat_lit 350, cO "report_without_state" 669 "report_without_state" 670 671 176 2 0 0 3 345 346 347 348 349 674 176 675) ::
(nat_lit 351, fO "report_without_state" "report_without_state" (top 52) "softport.messages" 546 350) ::
(nat_lit 357, cO "low_first" 677 "low_first" 678 679 178 2 0 0 3 352 353 354 355 356 685 178 686) ::
(nat_lit 358, fO "low_first" "low_first" (top 53) "softport.messages" 546 357) ::
(nat_lit 364, cO "number_from" 688 "number_from" 689 690 185 1 0 0 3 359 360 361 362 363 694 185 695) ::
(nat_lit 365, fO "number_from" "number_from" (top 54) "softport.messages" 546 364) ::
(nat_lit 371, cO "sent" 697 "sent" 698 699 190 1 0 0 3 366 367 368 369 370 701 190 702) ::
(nat_lit 372, fO "sent" "sent" (top 55) "softport.messages" 546 371) ::
(nat_lit 385, cO "__init__" 731 "SureRoutes.__init__" 732 733 200 3 0 0 3 380 381 382 383 384 737 200 738) ::
(nat_lit 386, fO "__init__" "SureRoutes.__init__" (inClass (top 62) 0) "softport.routes" 713 385) ::
(nat_lit 392, cO "is_sure" 740 "SureRoutes.is_sure" 741 742 205 4 0 0 3 387 388 389 390 391 748 205 749) ::
(nat_lit 393, fO "is_sure" "SureRoutes.is_sure" (inClass (top 62) 1) "softport.routes" 713 392) ::
(nat_lit 399, cO "most_misfires" 751 "SureRoutes.most_misfires" 752 753 209 2 0 0 3 394 395 396 397 398 757 209 758) ::
(nat_lit 400, fO "most_misfires" "SureRoutes.most_misfires" (inClass (top 62) 2) "softport.routes" 713 399) ::
(nat_lit 404, cN "chosen_burn" 760 "SureRoutes.chosen_burn" 761 762 215 3 0 0 3 401 402 403 763 215 764) ::
(nat_lit 405, fO "chosen_burn" "SureRoutes.chosen_burn" (inClass (top 62) 3) "softport.routes" 713 404) ::
(nat_lit 409, cN "is_sure_by" 766 "SureRoutes.is_sure_by" 767 768 222 5 0 0 3 406 407 408 769 222 770) ::
(nat_lit 410, fO "is_sure_by" "SureRoutes.is_sure_by" (inClass (top 62) 4) "softport.routes" 713 409) ::
(nat_lit 412, { cls := .type "dict", data := .dict #[dE P "__module__" 726 (.str "softport.routes" 713), dE P "__firstlineno__" 730 (.int 198 729), dE P "__init__" 739 (.ref 386), dE P "is_sure" 750 (.ref 393), dE P "most_misfires" 759 (.ref 400), dE P "chosen_burn" 765 (.ref 405), dE P "is_sure_by" 771 (.ref 410), dE P "__static_attributes__" 775 (.ref 411), dE P "__dict__" 777 (.ref 414), dE P "__weakref__" 779 (.ref 415), dE P "__doc__" 780 (.none)] 4 }) ::
(nat_lit 413, { cls := .type "type", data := .cls { name := "SureRoutes", bases := [.type "object"], mro := [.ref 413, .type "object"], ns := 412, qualname := "SureRoutes" }, slots := #[none, none, some (.str "SureRoutes" 719), some (.str "SureRoutes" 727), some (.builtin "object.__new__"), some (.bool true)] }) ::
(nat_lit 430, cO "__init__" 795 "AwayRoutes.__init__" 796 797 232 3 0 0 3 425 426 427 428 429 801 232 802) ::
(nat_lit 431, fO "__init__" "AwayRoutes.__init__" (inClass (top 63) 0) "softport.routes" 713 430) ::
(nat_lit 437, cO "is_away" 804 "AwayRoutes.is_away" 805 806 237 3 0 0 3 432 433 434 435 436 810 237 811) ::
(nat_lit 438, fO "is_away" "AwayRoutes.is_away" (inClass (top 63) 1) "softport.routes" 713 437) ::
(nat_lit 442, cN "chosen_burn" 813 "AwayRoutes.chosen_burn" 814 815 242 2 0 0 3 439 440 441 816 242 817) ::
(nat_lit 443, fO "chosen_burn" "AwayRoutes.chosen_burn" (inClass (top 63) 2) "softport.routes" 713 442) ::
(nat_lit 449, cO "is_away_by" 819 "AwayRoutes.is_away_by" 820 821 249 4 0 0 3 444 445 446 447 448 826 249 827) ::
(nat_lit 450, fO "is_away_by" "AwayRoutes.is_away_by" (inClass (top 63) 3) "softport.routes" 713 449) ::
(nat_lit 452, { cls := .type "dict", data := .dict #[dE P "__module__" 790 (.str "softport.routes" 713), dE P "__firstlineno__" 794 (.int 230 793), dE P "__init__" 803 (.ref 431), dE P "is_away" 812 (.ref 438), dE P "chosen_burn" 818 (.ref 443), dE P "is_away_by" 828 (.ref 450), dE P "__static_attributes__" 832 (.ref 451), dE P "__dict__" 834 (.ref 454), dE P "__weakref__" 836 (.ref 455), dE P "__doc__" 837 (.none)] 4 }) ::
(nat_lit 453, { cls := .type "type", data := .cls { name := "AwayRoutes", bases := [.type "object"], mro := [.ref 453, .type "object"], ns := 452, qualname := "AwayRoutes" }, slots := #[none, none, some (.str "AwayRoutes" 783), some (.str "AwayRoutes" 791), some (.builtin "object.__new__"), some (.bool true)] }) ::
(nat_lit 463, cO "has_state" 840 "has_state" 841 842 251 3 0 0 3 458 459 460 461 462 846 251 847) ::
(nat_lit 464, fO "has_state" "has_state" (top 64) "softport.routes" 713 463) ::
(nat_lit 468, cN "sure_levels" 849 "sure_levels" 850 851 255 2 0 0 3 465 466 467 852 255 853) ::
(nat_lit 469, fO "sure_levels" "sure_levels" (top 65) "softport.routes" 713 468) ::
(nat_lit 473, cN "next_sure_level" 855 "next_sure_level" 856 857 265 5 0 0 3 470 471 472 858 265 859) ::
(nat_lit 474, fO "next_sure_level" "next_sure_level" (top 66) "softport.routes" 713 473) ::
(nat_lit 478, cN "away_levels" 861 "away_levels" 862 863 274 2 0 0 3 475 476 477 864 274 865) ::
(nat_lit 479, fO "away_levels" "away_levels" (top 67) "softport.routes" 713 478) ::
(nat_lit 483, cN "next_away_level" 867 "next_away_level" 868 869 284 5 0 0 3 480 481 482 870 284 871) ::
(nat_lit 484, fO "next_away_level" "next_away_level" (top 68) "softport.routes" 713 483) ::
(nat_lit 488, cN "there_places" 873 "there_places" 874 875 289 1 0 0 3 485 486 487 876 289 877) ::
(nat_lit 489, fO "there_places" "there_places" (top 69) "softport.routes" 713 488) ::
(nat_lit 493, cN "moves_by_speed" 879 "moves_by_speed" 880 881 293 0 0 0 3 490 491 492 882 293 883) ::
(nat_lit 494, fO "moves_by_speed" "moves_by_speed" (top 70) "softport.routes" 713 493) ::
(nat_lit 498, cN "speeds_behind" 885 "speeds_behind" 886 887 299 2 0 0 3 495 496 497 888 299 889) ::
(nat_lit 499, fO "speeds_behind" "speeds_behind" (top 71) "softport.routes" 713 498) ::
(nat_lit 505, cO "number_behind" 891 "number_behind" 892 893 301 2 0 0 3 500 501 502 503 504 896 301 897) ::
(nat_lit 506, fO "number_behind" "number_behind" (top 72) "softport.routes" 713 505) ::
(nat_lit 512, cO "before_drift" 899 "before_drift" 900 901 303 3 0 0 3 507 508 509 510 511 906 303 907) ::
(nat_lit 513, fO "before_drift" "before_drift" (top 73) "softport.routes" 713 512) ::
(nat_lit 519, cO "places_by_burns" 909 "places_by_burns" 910 911 306 3 0 0 3 514 515 516 517 518 922 306 923) ::
(nat_lit 520, fO "places_by_burns" "places_by_burns" (top 74) "softport.routes" 713 519) ::
(nat_lit 521, { cls := .type "tuple", data := .seq #[.int 0 927, .int 0 928] }) ::
(nat_lit 534, cO "__init__" 954 "Craft.__init__" 955 956 327 1 0 0 3 529 530 531 532 533 958 327 959) ::
(nat_lit 535, fO "__init__" "Craft.__init__" (inClass (top 83) 0) "softport.craft" 925 534) ::
(nat_lit 541, cO "begin" 961 "Craft.begin" 962 963 330 2 0 0 3 536 537 538 539 540 966 330 967) ::
(nat_lit 542, fO "begin" "Craft.begin" (inClass (top 83) 1) "softport.craft" 925 541) ::
(nat_lit 548, cO "expect_nothing" 969 "Craft.expect_nothing" 970 971 340 1 0 0 3 543 544 545 546 547 973 340 974) ::
(nat_lit 549, fO "expect_nothing" "Craft.expect_nothing" (inClass (top 83) 2) "softport.craft" 925 548) ::
(nat_lit 555, cO "start" 976 "Craft.start" 977 978 344 3 0 0 3 550 551 552 553 554 983 344 984) ::
(nat_lit 556, fO "start" "Craft.start" (inClass (top 83) 3) "softport.craft" 925 555) ::
(nat_lit 562, cO "tick" 986 "Craft.tick" 987 988 351 2 0 0 3 557 558 559 560 561 995 351 996) ::
(nat_lit 563, fO "tick" "Craft.tick" (inClass (top 83) 4) "softport.craft" 925 562) ::
(nat_lit 569, cO "decide" 998 "Craft.decide" 999 1000 364 2 0 0 3 564 565 566 567 568 1003 364 1004) ::
(nat_lit 570, fO "decide" "Craft.decide" (inClass (top 83) 5) "softport.craft" 925 569) ::
(nat_lit 576, cO "come_alongside" 1006 "Craft.come_alongside" 1007 1008 377 2 0 0 3 571 572 573 574 575 1013 377 1014) ::
(nat_lit 577, fO "come_alongside" "Craft.come_alongside" (inClass (top 83) 6) "softport.craft" 925 576) ::
(nat_lit 583, cO "misfires_at" 1016 "Craft.misfires_at" 1017 1018 388 2 0 0 3 578 579 580 581 582 1021 388 1022) ::
(nat_lit 584, fO "misfires_at" "Craft.misfires_at" (inClass (top 83) 7) "softport.craft" 925 583) ::
(nat_lit 590, cO "go_away" 1024 "Craft.go_away" 1025 1026 395 2 0 0 3 585 586 587 588 589 1029 395 1030) ::
(nat_lit 591, fO "go_away" "Craft.go_away" (inClass (top 83) 8) "softport.craft" 925 590) ::
(nat_lit 597, cO "find_sure_routes" 1032 "Craft.find_sure_routes" 1033 1034 401 1 0 0 3 592 593 594 595 596 1036 401 1037) ::
(nat_lit 598, fO "find_sure_routes" "Craft.find_sure_routes" (inClass (top 83) 9) "softport.craft" 925 597) ::
(nat_lit 604, cO "find_away_routes" 1039 "Craft.find_away_routes" 1040 1041 406 1 0 0 3 599 600 601 602 603 1043 406 1044) ::
(nat_lit 605, fO "find_away_routes" "Craft.find_away_routes" (inClass (top 83) 10) "softport.craft" 925 604) ::
(nat_lit 611, cO "find_drifts" 1046 "Craft.find_drifts" 1047 1048 411 1 0 0 3 606 607 608 609 610 1050 411 1051) ::
(nat_lit 612, fO "find_drifts" "Craft.find_drifts" (inClass (top 83) 11) "softport.craft" 925 611) ::
(nat_lit 618, cO "heard" 1053 "Craft.heard" 1054 1055 415 2 0 0 3 613 614 615 616 617 1059 415 1060) ::
(nat_lit 619, fO "heard" "Craft.heard" (inClass (top 83) 12) "softport.craft" 925 618) ::
(nat_lit 625, cO "told_state" 1062 "Craft.told_state" 1063 1064 427 1 0 0 3 620 621 622 623 624 1066 427 1067) ::
(nat_lit 626, fO "told_state" "Craft.told_state" (inClass (top 83) 13) "softport.craft" 925 625) ::
(nat_lit 628, { cls := .type "dict", data := .dict #[dE P "__module__" 949 (.str "softport.craft" 925), dE P "__firstlineno__" 953 (.int 325 952), dE P "__init__" 960 (.ref 535), dE P "begin" 968 (.ref 542), dE P "expect_nothing" 975 (.ref 549), dE P "start" 985 (.ref 556), dE P "tick" 997 (.ref 563), dE P "decide" 1005 (.ref 570), dE P "come_alongside" 1015 (.ref 577), dE P "misfires_at" 1023 (.ref 584), dE P "go_away" 1031 (.ref 591), dE P "find_sure_routes" 1038 (.ref 598), dE P "find_away_routes" 1045 (.ref 605), dE P "find_drifts" 1052 (.ref 612), dE P "heard" 1061 (.ref 619), dE P "told_state" 1068 (.ref 626), dE P "__static_attributes__" 1078 (.ref 627), dE P "__dict__" 1080 (.ref 630), dE P "__weakref__" 1082 (.ref 631), dE P "__doc__" 1083 (.none)] 4 }) ::
(nat_lit 629, { cls := .type "type", data := .cls { name := "Craft", bases := [.type "object"], mro := [.ref 629, .type "object"], ns := 628, qualname := "Craft" }, slots := #[none, none, some (.str "Craft" 942), some (.str "Craft" 950), some (.builtin "object.__new__"), some (.bool true)] }) ::
(nat_lit 646, cO "__init__" 1104 "PeoplesEnd.__init__" 1105 1106 434 1 0 0 3 641 642 643 644 645 1108 434 1109) ::
(nat_lit 647, fO "__init__" "PeoplesEnd.__init__" (inClass (top 87) 0) "softport.people" 1086 646) ::
(nat_lit 653, cO "begin" 1111 "PeoplesEnd.begin" 1112 1113 437 1 0 0 3 648 649 650 651 652 1115 437 1116) ::
(nat_lit 654, fO "begin" "PeoplesEnd.begin" (inClass (top 87) 1) "softport.people" 1086 653) ::
(nat_lit 660, cO "start" 1118 "PeoplesEnd.start" 1119 1120 446 1 0 0 3 655 656 657 658 659 1122 446 1123) ::
(nat_lit 661, fO "start" "PeoplesEnd.start" (inClass (top 87) 2) "softport.people" 1086 660) ::
(nat_lit 667, cO "order" 1125 "PeoplesEnd.order" 1126 1127 450 2 0 0 3 662 663 664 665 666 1130 450 1131) ::
(nat_lit 668, fO "order" "PeoplesEnd.order" (inClass (top 87) 3) "softport.people" 1086 667) ::
(nat_lit 674, cO "sent_order" 1133 "PeoplesEnd.sent_order" 1134 1135 460 1 0 0 3 669 670 671 672 673 1137 460 1138) ::
(nat_lit 675, fO "sent_order" "PeoplesEnd.sent_order" (inClass (top 87) 4) "softport.people" 1086 674) ::
(nat_lit 681, cO "heard" 1140 "PeoplesEnd.heard" 1141 1142 463 2 0 0 3 676 677 678 679 680 1145 463 1146) ::
(nat_lit 682, fO "heard" "PeoplesEnd.heard" (inClass (top 87) 5) "softport.people" 1086 681) ::
(nat_lit 688, cO "hear_answer" 1148 "PeoplesEnd.hear_answer" 1149 1150 472 2 0 0 3 683 684 685 686 687 1153 472 1154) ::
(nat_lit 689, fO "hear_answer" "PeoplesEnd.hear_answer" (inClass (top 87) 6) "softport.people" 1086 688) ::
(nat_lit 695, cO "hear_report" 1156 "PeoplesEnd.hear_report" 1157 1158 476 2 0 0 3 690 691 692 693 694 1161 476 1162) ::
(nat_lit 696, fO "hear_report" "PeoplesEnd.hear_report" (inClass (top 87) 7) "softport.people" 1086 695) ::
(nat_lit 702, cO "tick" 1164 "PeoplesEnd.tick" 1165 1166 482 1 0 0 3 697 698 699 700 701 1168 482 1169) ::
(nat_lit 703, fO "tick" "PeoplesEnd.tick" (inClass (top 87) 8) "softport.people" 1086 702) ::
(nat_lit 709, cO "awaits_answer" 1171 "PeoplesEnd.awaits_answer" 1172 1173 488 1 0 0 3 704 705 706 707 708 1175 488 1176) ::
(nat_lit 710, fO "awaits_answer" "PeoplesEnd.awaits_answer" (inClass (top 87) 9) "softport.people" 1086 709) ::
(nat_lit 716, cO "told_state" 1178 "PeoplesEnd.told_state" 1179 1180 491 1 0 0 3 711 712 713 714 715 1185 491 1186) ::
(nat_lit 717, fO "told_state" "PeoplesEnd.told_state" (inClass (top 87) 10) "softport.people" 1086 716) ::
(nat_lit 719, { cls := .type "dict", data := .dict #[dE P "__module__" 1099 (.str "softport.people" 1086), dE P "__firstlineno__" 1103 (.int 432 1102), dE P "__init__" 1110 (.ref 647), dE P "begin" 1117 (.ref 654), dE P "start" 1124 (.ref 661), dE P "order" 1132 (.ref 668), dE P "sent_order" 1139 (.ref 675), dE P "heard" 1147 (.ref 682), dE P "hear_answer" 1155 (.ref 689), dE P "hear_report" 1163 (.ref 696), dE P "tick" 1170 (.ref 703), dE P "awaits_answer" 1177 (.ref 710), dE P "told_state" 1187 (.ref 717), dE P "__static_attributes__" 1195 (.ref 718), dE P "__dict__" 1197 (.ref 721), dE P "__weakref__" 1199 (.ref 722), dE P "__doc__" 1200 (.none)] 4 }) ::
(nat_lit 720, { cls := .type "type", data := .cls { name := "PeoplesEnd", bases := [.type "object"], mro := [.ref 720, .type "object"], ns := 719, qualname := "PeoplesEnd" }, slots := #[none, none, some (.str "PeoplesEnd" 1092), some (.str "PeoplesEnd" 1100), some (.builtin "object.__new__"), some (.bool true)] }) ::
(nat_lit 725, { cls := .type "tuple", data := .seq #[.int 7 1219, .int 4 1220, .int 0 1221, .int 0 1222, .int 0 1223, .int 1 1224, .int 0 1225, .int 0 1226, .int 0 1227] }) ::
(nat_lit 726, { cls := .type "tuple", data := .seq #[.bool true, .bool false, .bool true, .bool false, .bool false, .bool false, .bool true, .bool false, .bool false] }) ::
(nat_lit 732, cO "answers" 1230 "answers" 1231 1232 506 1 0 0 3 727 728 729 730 731 1243 506 1244) ::
(nat_lit 733, fO "answers" "answers" (top 98) "softport.desk" 1203 732) ::
(nat_lit 739, cO "answer_call" 1246 "answer_call" 1247 1248 524 5 0 0 3 734 735 736 737 738 1254 524 1255) ::
(nat_lit 740, fO "answer_call" "answer_call" (top 99) "softport.desk" 1203 739) ::
(nat_lit 746, cO "answer_of_craft" 1257 "answer_of_craft" 1258 1259 528 4 0 0 3 741 742 743 744 745 1264 528 1265) ::
(nat_lit 747, fO "answer_of_craft" "answer_of_craft" (top 100) "softport.desk" 1203 746) ::
(nat_lit 753, cO "answer_of_people" 1267 "answer_of_people" 1268 1269 536 4 0 0 3 748 749 750 751 752 1274 536 1275) ::
(nat_lit 754, fO "answer_of_people" "answer_of_people" (top 101) "softport.desk" 1203 753) :: []
def asK : List Addr := [3, 15, 16, 17, 18, 19, 20, 21, 22, 23, 24, 30, 31, 37, 38, 44, 45, 49, 50, 54, 55, 61, 62, 68, 69, 82, 83, 89, 90, 96, 97, 103, 104, 110, 111, 113, 114, 119, 120, 121, 122, 123, 136, 137, 143, 144, 150, 151, 153, 154, 162, 163, 167, 168, 174, 175, 181, 182, 186, 187, 198, 199, 205, 206, 210, 211, 213, 214, 224, 225, 231, 232, 238, 239, 245, 246, 252, 253, 259, 260, 266, 267, 273, 274, 280, 281, 287, 288, 294, 295, 301, 302, 308, 309, 315, 316, 322, 323, 329, 330, 336, 337, 343, 344, 350, 351, 357, 358, 364, 365, 371, 372, 385, 386, 392, 393, 399, 400, 404, 405, 409, 410, 412, 413, 430, 431, 437, 438, 442, 443, 449, 450, 452, 453, 463, 464, 468, 469, 473, 474, 478, 479, 483, 484, 488, 489, 493, 494, 498, 499, 505, 506, 512, 513, 519, 520, 521, 534, 535, 541, 542, 548, 549, 555, 556, 562, 563, 569, 570, 576, 577, 583, 584, 590, 591, 597, 598, 604, 605, 611, 612, 618, 619, 625, 626, 628, 629, 646, 647, 653, 654, 660, 661, 667, 668, 674, 675, 681, 682, 688, 689, 695, 696, 702, 703, 709, 710, 716, 717, 719, 720, 725, 726, 732, 733, 739, 740, 746, 747, 753, 754]
abbrev pW : Program := PySem.Challenge.pw_softport_s01_answers
noncomputable def qW : Program := view pW [98]
noncomputable def lsW : List Str := (["FASTEST", "SPEED_COUNT", "BURNS", "is_speed", "speed_number", "speed_parts", "burns_at", "less_than", "behind_burn", "behind_tick", "Field", "WAYS", "WIDEST", "MOST_BOXES", "Chart", "boxes_in", "is_chart_as_told", "is_box_within", "is_port_as_told", "is_in_a_box", "Drifts", "harmless_places", "touching_soon", "touching_ever", "coming_to_port", "MESSAGE_LENGTH", "ORDER", "ANSWER", "REPORT", "ALONGSIDE", "AWAY", "GREATEST_WHAT", "GREATEST_PLACE", "is_order", "is_answer", "is_report", "is_message", "is_of_an_order", "is_order_what", "what_of", "number_of_order", "number_of_report", "state_told", "order_to", "answer_to", "of_an_order", "report_of", "report_without_state", "low_first", "number_from", "sent", "NOT_AS_TOLD", "TOO_MANY", "NO_MESSAGE", "MOST_TICKS", "MOST_MISFIRES", "SureRoutes", "AwayRoutes", "has_state", "sure_levels", "next_sure_level", "away_levels", "next_away_level", "there_places", "moves_by_speed", "speeds_behind", "number_behind", "before_drift", "places_by_burns", "NO_BURN", "IDLE", "COMING", "GOING", "HELPLESS", "NOT_HERE", "THERE", "Craft", "MOST_ORDERS", "TICKS_BETWEEN", "PeoplesEnd", "CR_START", "CR_TICK", "CR_HEARD", "PE_START", "PE_ORDER", "PE_HEARD", "PE_TICK", "NUMBERS_OF", "HAS_ROW", "answer_call", "answer_of_craft", "answer_of_people"] : List String).map Str.ofString
noncomputable def bt0 (l : List Obj) : BT := (l.foldl (fun (x : BT × Nat) o => (x.1.ins x.2 o, x.2 + 1)) (BT.nil, 0)).1
noncomputable def S0 (w : World) (os : OsState) : SharedT := ⟨bt0 (boot_heap w.params).objs.toList, (boot_heap w.params).objs.size, (boot_heap w.params).life, Array.mk [], boot_drawn, boot_toks, os⟩
theorem abs0 (P : Params) : absHeap (bt0 (boot_heap P).objs.toList) (boot_heap P).objs.size (boot_heap P).life = boot_heap P := by kernel_rfl
noncomputable def xt (s : Shared) : Bool := xlAt qW [] s && recOk [] s
noncomputable def chk (P : Params) (s : Shared) : Bool := staticsOk (importedModules pW.main.body) (boot_heap P) s.heap && namesBound pW s.heap && gensDone s && laidKept (boot_heap P) s.heap
noncomputable abbrev runW (w : World) (os : OsState) := segRunT treeTable pW w (boot_heap w.params).objs.size ((boot_heap w.params).nsMap mainGlobals "__annotations__") 0 10000 (S0 w os) (topStub pW)
end SPx
namespace SPx
open PySem PySem.Spec PyProof.Rows L2 PySem.W
theorem big (w : World) (os : OsState) : (runW w os).map (fun r => (chk w.params r.2.1.abs, openSeen qW lsW (importedModules pW.main.body) xt true r.2.1.abs, asK.map r.2.1.abs.heap.get?)) = some (true, openGood qW lsW, (heapK w.params).map fun p => some p.2) := by
 unfold runW
 rw [PySem.W.Fast.te10110043849684766642, PySem.W.Fast.te4187177175401517315]
 kernel_rfl
end SPx
namespace SPx
open PySem PySem.Spec PyProof.Rows L2 PySem.W
theorem through_end (t : Thread) : through t = (endAt 0 t).isSome := by
 obtain ⟨cur, code, pos, stack⟩ := t
 unfold through endAt
 cases stack with
 | nil =>
   cases cur <;> try rfl
   rename_i v
   cases v <;> rfl
 | cons f r => rfl
theorem seg0 {tb : String → Option Builtin} {p : Program} {w : World} {m : Nat} {ann : Option Value} : ∀ {n : Nat} {s s' : Shared} {t : Thread} {f : Flow} {c : Code} {q : Pos}, segRun tb p w m ann 0 n s t = some (f, s', c, q) → topRun tb p w m ann n s t = some s'
 | 0, _, _, _, _, _, _, h => by cases h
 | n + 1, s, s', t, f, c, q, h => by
   unfold segRun at h
   unfold topRun
   rw [through_end]
   cases he : endAt 0 t with
   | some x =>
     rw [he] at h
     cases h
     rfl
   | none =>
     rw [he] at h
     cases hk : stepOk m ann t with
     | false =>
       rw [hk] at h
       cases h
     | true =>
       rw [hk] at h
       cases hs : step (denote tb) p w s t with
       | halt o s2 =>
         rw [hs] at h
         cases h
       | go s2 t2 =>
         rw [hs] at h
         exact seg0 h
theorem eK (P : Params) : asK = (heapK P).map (·.1) := by kernel_rfl
noncomputable abbrev hK : Hook := kHook heapK asK eK
abbrev dK : DefRec := ⟨"answers", defArgs (top 98), defBody (top 98), defScope (top 98), ⟨506, 0, 523, 16⟩⟩
theorem boot_is (P : Params) : ((boot_heap P).isNs mainGlobals && (Array.mk [] : Array GenState).size == 0) = true := by kernel_rfl
theorem left : LeftO pW qW lsW xt hK.obs hK.val 10000 := fun w => by
 obtain ⟨⟨h, gs, d, k, os⟩, e, e'⟩ := Option.map_eq_some_iff.mp (boot_open (p := pW) (N := 10000) (by kernel_rfl) (by decide) (fun s => by kernel_rfl) w)
 have q1 : h = boot_heap w.params := congrArg (fun x => x.1) e'
 have q2 : gs = Array.mk [] := congrArg (fun x => x.2.1) e'
 have q3 : d = boot_drawn := congrArg (fun x => x.2.2.1) e'
 have q4 : k = boot_toks := congrArg (fun x => x.2.2.2) e'
 subst q1 q2 q3 q4
 obtain ⟨⟨f, s', c, q⟩, hr, hb⟩ := Option.map_eq_some_iff.mp (big w os)
 have run := seg0 (segRun_of hr)
 have ea : (S0 w os).abs = ⟨boot_heap w.params, Array.mk [], boot_drawn, boot_toks, os⟩ := by
   show (⟨absHeap (bt0 (boot_heap w.params).objs.toList) (boot_heap w.params).objs.size (boot_heap w.params).life, Array.mk [], boot_drawn, boot_toks, os⟩ : Shared) = _
   rw [abs0]
 rw [ea] at run
 have h1 := congrArg Prod.fst hb
 have h2 := congrArg Prod.snd hb
 have h1 : chk w.params s'.abs = true := h1
 have h2 : (openSeen qW lsW (importedModules pW.main.body) xt true s'.abs, asK.map s'.abs.heap.get?) = (openGood qW lsW, (heapK w.params).map fun p => some p.2) := h2
 have ht : topFrom treeTable pW w 10000 ⟨boot_heap w.params, Array.mk [], boot_drawn, boot_toks, os⟩ = some s'.abs := by
   unfold topFrom
   dsimp only
   rw [boot_is, run]
   unfold chk at h1
   dsimp only
   rw [Option.bind_some, h1]
 unfold openEnds
 rw [e, Option.bind_some, ht, Option.map_some]
 exact congrArg some h2
abbrev rW : OpenSpec := PySem.Challenge.rw_softport_s01_answers
theorem wsaid : rW.wellSaid = true := by decide +kernel
theorem topHolds (call : WalkOS qW lsW (XL qW []) (Hook.says (kHook heapK asK eK)) rW dK [] fun f vs => PySem.call f vs) : rW.Holds :=
 holds_os (d := dK) (kwd := []) left (Hook.of _) (Hook.keeps _) (fun s e => xl_of s (Bool.and_eq_true_iff.mp e).1) XL.keeps (by kernel_rfl) (by kernel_rfl) (by kernel_rfl) (fun s e => recFacts_of (Bool.and_eq_true_iff.mp e).2) os_shapes wsaid (by decide +kernel) ⟨rfl, rfl, rfl, rfl, rfl, by decide +kernel⟩ ⟨[.list [.int 4]], by decide +kernel, by decide +kernel⟩ call
end SPx
namespace L2
open PySem PySem.Spec PyProof.Rows
section
variable {X : Cx} {a b c e : Expr} {ta tb tc td : TE} {pos : Pos}
def CShl (i j : Int) : Prop := 0 ≤ j ∧ (Builtin.Int.intBits i : Int) + j ≤ 2 ^ 27
theorem op_shlB : OpR X (binaryOp .LShift) (rI CShl fun i j => .int (i * 2 ^ j.toNat)) := opI fun _ _ _ _ _ _ _ hc q => lshift_int hc.1 hc.2 q
def tChain3 (r r' r'' : R2) (ta tb tc td : TE) : TE := fun σ H Q => ta σ H fun x H1 => tb σ H1 fun y H2 => r x y H2 fun z H3 => ∃ k, z = .bl k ∧
 (if k = true then tc σ H3 fun w' H4 => r' y w' H4 fun z' H5 => ∃ k', z' = .bl k' ∧ (if k' = true then td σ H5 fun v' H6 => r'' w' v' H6 Q else Q (.bl false) H5) else Q (.bl false) H3)
theorem pe_chain3 {op op' op'' : CmpOp} {r r' r'' : R2} (ho : OpR X (compareOp op) r) (ho' : OpR X (compareOp op') r') (ho'' : OpR X (compareOp op'') r'') (ha : PE X a ta) (hb : PE X b tb) (hc : PE X c tc) (hd : PE X e td)
   (hm : lastMarks [op, op', op''] [b, c, e] = false := by with_unfolding_all rfl) : PE X (.Compare a [op, op', op''] [b, c, e] pos) (tChain3 r r' r'' ta tb tc td) := by
 intro pins s σ H Q I h
 refine Compare_chain (thn (ha pins s σ H _ I h) fun v s1 ⟨x, H1, I1, r1, q1⟩ => chain_link (thn (hb pins s1 σ H1 _ I1 q1) fun u s2 ⟨y, H2, I2, r2, q2⟩ =>
   thn (ho pins s2 σ H2 x y v u _ I2 r1 r2 q2) fun d s3 ⟨z, H3, I3, r3, k, e, q3⟩ => ?_)) hm
 subst e
 cases r3
 refine wpAny_truthy_bool ?_
 cases k with
 | false => exact ite_ff ⟨.bl false, H3, I3, rfl, q3⟩
 | true =>
   refine ite_tt (chain_link (thn (hc pins s3 σ H3 _ I3 q3) fun w' s4 ⟨z', H4, I4, r4, q4⟩ => thn (ho' pins s4 σ H4 y z' u w' _ I4 r2 r4 q4) fun d' s5 ⟨z2, H5, I5, r5, k2, e2, q5⟩ => ?_))
   subst e2
   cases r5
   refine wpAny_truthy_bool ?_
   cases k2 with
   | false => exact ite_ff ⟨.bl false, H5, I5, rfl, q5⟩
   | true => exact ite_tt (chain_last (thn (hd pins s5 σ H5 _ I5 q5) fun w6 s6 ⟨z6, H6, I6, r6, q6⟩ => ho'' pins s6 σ H6 z' z6 w' w6 Q I6 r4 r6 q6))
end
section
variable {X : Cx}
def rMax2 : List V → Hp → VK → Prop := fun xs H Q => ∃ i j, xs = [.int i, .int j] ∧ Q (.int (max i j)) H
def rMin2 : List V → Hp → VK → Prop := fun xs H Q => ∃ i j, xs = [.int i, .int j] ∧ Q (.int (min i j)) H
def rLenS (K : PySem.W.Frag) : List V → Hp → VK → Prop := fun xs H Q => ∃ p ys, xs = [.ref p] ∧ (SqL K H p ys ∨ SqT K H p ys) ∧ Q (.int ys.length) H
def rTupL (K : PySem.W.Frag) : List V → Hp → VK → Prop := fun xs H Q => ∃ p ys, xs = [.ref p] ∧ SqL K H p ys ∧ ∀ l, H l = none → Q (.ref l) (upd H l (.tup ys))
def rIsN : R2 := fun x y H Q => y = .non ∧ Q (.bl (decide (x = .non))) H
theorem cm_max (hc : X.calm = true) : CallR X (.builtin "max") rMax2 := fun pins s σ H xs us Q I r h => by
 obtain ⟨i, j, e, q⟩ := h
 refine call_max2 hc pins s σ H xs us Q I r ⟨i, j, e, ?_⟩
 have e2 : (if j > i then j else i) = max i j := by omega
 rw [e2]
 exact q
theorem cm_min (hc : X.calm = true) : CallR X (.builtin "min") rMin2 := fun pins s σ H xs us Q I r h => by
 obtain ⟨i, j, e, q⟩ := h
 refine call_min2 hc pins s σ H xs us Q I r ⟨i, j, e, ?_⟩
 have e2 : (if j < i then j else i) = min i j := by omega
 rw [e2]
 exact q
theorem cm_len : CallR X (.builtin "len") (rLenS X.K) := call_len_seq
theorem cm_tuple : CallR X (.type "tuple") (rTupL X.K) := fun pins s σ H xs us Q I r h => by
 obtain ⟨p, ys, e, hs, q⟩ := h
 exact call_tuple_of pins s σ H xs us Q I r ⟨p, ys, e, .inl ⟨hs, q⟩⟩
theorem cm_isN : OpR X (compareOp .Is) rIsN := op_isN
end
section
variable {X : Cx} {a b e o value : Expr} {es : List Expr} {ta tb tv to : TE} {t : TA} {pos pos' tpos apos cpos : Pos} {f : Str}
theorem ixT (K : PySem.W.Frag) (hK : X.K = K := by rfl) : IxR X (rIxT K) := hK ▸ ix_tup
theorem ixL (K : PySem.W.Frag) (hK : X.K = K := by rfl) : IxR X (rIxL K) := hK ▸ ix_list
theorem inK (K : PySem.W.Frag) (hK : X.K = K := by rfl) : OpR X (compareOp .In) (rIn K false) := hK ▸ op_in_seq
theorem eqK (K : PySem.W.Frag) (hu : X.A.units + 64 < cLine) (hK : X.K = K := by rfl) : OpR X (compareOp .Eq) (rEqD K) := hK ▸ op_eqD hu
theorem neK (K : PySem.W.Frag) (hu : X.A.units + 64 < cLine) (hK : X.K = K := by rfl) : OpR X (compareOp .NotEq) (rNeD K) := hK ▸ op_neD hu
theorem lenK (K : PySem.W.Frag) (hK : X.K = K := by rfl) : CallR X (.builtin "len") (rLenS K) := hK ▸ cm_len
theorem tupK (K : PySem.W.Frag) (hK : X.K = K := by rfl) : CallR X (.type "tuple") (rTupL K) := hK ▸ cm_tuple
theorem anyK (K : PySem.W.Frag) (hc : X.calm = true) (hK : X.K = K := by rfl) : CallR X (.builtin "any") (rAny K) := hK ▸ cr_any hc
theorem allK (K : PySem.W.Frag) (hc : X.calm = true) (hK : X.K = K := by rfl) : CallR X (.builtin "all") (rAll K) := hK ▸ cr_all hc
theorem slK (K : PySem.W.Frag) (hK : X.K = K := by rfl) : SlR X (rSlL K) := hK ▸ sl_list
theorem fldK (K : PySem.W.Frag) (he : PE X e ta) (hb : attributeBase e f X.env (eval e X.env) = eval e X.env) (hK : X.K = K := by rfl) : PE X (.Attribute e f pos) (tFld K ta f) := hK ▸ pe_fld he hb
theorem sfldK (K : PySem.W.Frag) (ha : PE X o ta) (hv : PE X value tv) (hs : swapsWith value (some (.Attribute o f pos')) pos.line X.env = pure false) (hK : X.K = K := by rfl) : PS X (.Assign [.Attribute o f pos'] value pos) (sFld K ta tv f) := hK ▸ ps_fld ha hv hs
theorem faugK (K : PySem.W.Frag) {op : Operator} {rd : V → V → Hp → VK → Prop} (ha : PE X o ta) (hv : PE X value tv) (hop : InOp X op rd) (hK : X.K = K := by rfl) : PS X (.AugAssign (.Attribute o f tpos) op value pos) (sFldAug K ta tv rd f) := hK ▸ ps_fldaug ha hv hop
theorem ilK (K : PySem.W.Frag) {tg : Expr} (he : PE X e ta) (hK : X.K = K := by rfl) : PI X tg e (iList K ta) := hK ▸ pi_list he
theorem itK (K : PySem.W.Frag) {tg : Expr} (he : PE X e ta) (hK : X.K = K := by rfl) : PI X tg e (iTup K ta) := hK ▸ pi_tup he
theorem gtK (K : PySem.W.Frag) {k : Nat} {u : TGs} {n : Nat} (h : PG X (.Tuple es k pos) (gTup X.K n u)) (hK : X.K = K := by rfl) : PG X (.Tuple es k pos) (gTup K n u) := hK ▸ h
theorem appK (K : PySem.W.Frag) {name : Str} {T : String} {r : V → List V → Hp → VK → Prop} (h : PE X (.Call (.Attribute o name apos) (e :: es) [] cpos) (tBM X.K T r to t)) (hK : X.K = K := by rfl) : PE X (.Call (.Attribute o name apos) (e :: es) [] cpos) (tBM K T r to t) := hK ▸ h
end
inductive CD where
 | int (i : Int)
 | bl (b : Bool)
 | tup (l : List CD)
def KTup (K : PySem.W.Frag) (a : Addr) (xs : List V) : Prop := ∃ (o : Obj) (its : Array Value) (n : Nat), K.lookup a = some o ∧ o.cls = .type "tuple" ∧ o.data = .seq its n ∧ its.size ≤ sizeLine ∧ Vals xs its.toList
theorem KTup.sq {K : PySem.W.Frag} {a : Addr} {xs : List V} (h : KTup K a xs) (H : Hp) : SqT K H a xs := .inr h
mutual
inductive KC (K : PySem.W.Frag) : V → CD → Prop
 | int (i : Int) : KC K (.int i) (.int i)
 | bl (b : Bool) : KC K (.bl b) (.bl b)
 | tup {a : Addr} {xs : List V} {ds : List CD} : KTup K a xs → KCs K xs ds → KC K (.ref a) (.tup ds)
inductive KCs (K : PySem.W.Frag) : List V → List CD → Prop
 | nil : KCs K [] []
 | cons {v : V} {vs : List V} {d : CD} {ds : List CD} : KC K v d → KCs K vs ds → KCs K (v :: vs) (d :: ds)
end
theorem Same.tup {K : PySem.W.Frag} {H H' : Hp} {a : Addr} {xs : List V} (e : Same H H') (h : SqT K H a xs) : SqT K H' a xs := by
 rcases h with (h | ⟨o, h⟩) | h
 · exact .inl (.inl (e _ _ h))
 · exact .inl (.inr ⟨o, e _ _ h⟩)
 · exact .inr h
theorem Same.new {H : Hp} {p : Addr} {o : HO} (h : H p = none) : Same H (upd H p o) := fun b u e => by
 rw [upd_ne (ne_of_none e h)]
 exact e
theorem Same.set {H H' : Hp} {D : Addr} {o : HO} (s : Same H H') (h : H D = none) : Same H (upd H' D o) := fun b u e => by
 rw [upd_ne (ne_of_none e h)]
 exact s b u e
theorem SqT.updL {K : PySem.W.Frag} {H : Hp} {a D : Addr} {xs ys : List V} {o : HO} (h : SqT K H a xs) (hD : H D = some (.lst ys)) : SqT K (upd H D o) a xs := by
 rcases h with (h | ⟨u, h⟩) | h
 · exact .inl (.inl (by rw [upd_ne (ne_of h hD (by intro z; cases z))]; exact h))
 · exact .inl (.inr ⟨u, by rw [upd_ne (ne_of h hD (by intro z; cases z))]; exact h⟩)
 · exact .inr h
theorem small100 {n : Nat} (h : n ≤ 1000) : n < sizeLine := small1000 h
theorem iteNF {A B : Prop} (h : A) : if (!false) = true then A else B := iteT h
theorem iteNT {A B : Prop} (h : B) : if (!true) = true then A else B := iteF h
def PartR (x : V) (H : Hp) (R : Option Int → Hp → Prop) : Prop := ∃ i, x = .int i ∧ R (some i) H
theorem lc_rangeC {lo c : Int} {n : Nat} {g : TG} {tt : TT} {te : TE} {vs : List Nat} {σ : St} {H1 : Hp} {D : Addr} {Qd : Hp → Prop} (Pv : Nat → Hp → Prop) (h0 : Pv 0 (upd H1 D (.lst [])))
   (hs : ∀ i H, i < n → Pv i H → g (.int (lo + (i : Nat) * c)) (wipe σ vs) H fun σ2 H2 => wipe σ2 vs = wipe σ vs ∧ tt σ2 H2 fun b H3 =>
     if b = true then te σ2 H3 fun y H4 => ∃ acc, H4 D = some (.lst acc) ∧ acc.length < sizeLine ∧ Pv (i + 1) (upd H4 D (.lst (acc ++ [y]))) else Pv (i + 1) H3) (hd : ∀ H, Pv n H → Qd H) :
   ∃ W : Nat → Nat → Hp → Prop, (∃ m, W 0 m (upd H1 D (.lst []))) ∧ ∀ i m H, W i m H →
     ((Itc lo c n).stop i H ∧ Qd H) ∨ ((Itc lo c n).go i H ∧ ∃ Nx : Hp → Prop, (∀ H', Nx H' → ∃ m', m' < m ∧ W (i + 1) m' H') ∧ ∀ x H', (Itc lo c n).yld i H x H' → g x (wipe σ vs) H' fun σ2 H2 => wipe σ2 vs = wipe σ vs ∧ tt σ2 H2 fun b H3 =>
       if b = true then te σ2 H3 fun y H4 => ∃ acc, H4 D = some (.lst acc) ∧ acc.length < sizeLine ∧ Nx (upd H4 D (.lst (acc ++ [y]))) else Nx H3) := by
 refine ⟨fun i m H => m = n - i ∧ i ≤ n ∧ Pv i H, ⟨n, by simp, Nat.zero_le _, h0⟩, ?_⟩
 rintro i m H ⟨rfl, hi, p⟩
 by_cases hlt : i < n
 · refine .inr ⟨hlt, Pv (i + 1), fun H' p' => ⟨n - (i + 1), by omega, rfl, hlt, p'⟩, fun x H' y => ?_⟩
   obtain ⟨e, y⟩ := y
   subst e y
   exact hs i _ hlt p
 · have e : i = n := by omega
   subst e
   exact .inl ⟨Nat.le_refl _, hd H p⟩
def SFldR (K : PySem.W.Frag) (f : Str) (x y : V) (H : Hp) (R : Hp → Prop) : Prop := ∃ a C dx fs, x = .ref a ∧ H a = some (.ins C dx fs) ∧ Cls K C ∧ NoAttr K C f ∧ fs.length < 1000 ∧ R (upd H a (.ins C dx (putF f y fs)))
def MethR (C : Addr) (m : Str) (x : V) (H : Hp) (R : Prop) : Prop := ∃ a dx fs, x = .ref a ∧ H a = some (.ins C dx fs) ∧ fs.lookup m = none ∧ R
def FldR (K : PySem.W.Frag) (f : Str) (x : V) (H : Hp) (Q : VK) : Prop := ∃ a C dx fs v, x = .ref a ∧ H a = some (.ins C dx fs) ∧ Cls K C ∧ NoAttr K C f ∧ fs.lookup f = some v ∧ Q v H
section
variable {σ : St} {H : Hp} {Q : VK} {D : Ends} {ta tb tc td : TE} {i j : Int} {v : V} {r r' r'' : R2} {K : PySem.W.Frag}
theorem w_var {n : Nat} (h : σ[n]? = some (some v)) (q : Q v H) : tVar n σ H Q := ⟨v, h, q⟩
theorem w_C (q : Q v H) : tC v σ H Q := q
theorem w_op (q : ta σ H fun x H1 => tb σ H1 fun y H2 => r x y H2 Q) : tOp r ta tb σ H Q := q
theorem w_un {u : V → Hp → VK → Prop} (q : ta σ H fun x H1 => u x H1 Q) : tUn u ta σ H Q := q
theorem w_rI0 {g : Int → Int → V} (q : Q (g i j) H) : rI0 g (.int i) (.int j) H Q := ⟨i, j, rfl, rfl, q⟩
theorem w_rU {g : Int → V} (q : Q (g i) H) : rU g (.int i) H Q := ⟨i, rfl, q⟩
theorem w_eqI (q : Q (.bl (decide (i = j))) H) : rEq (.int i) (.int j) H Q := ⟨rfl, by rw [show decide (V.int i = V.int j) = decide (i = j) by rw [dec_int, Bool.beq_eq_decide_eq]]; exact q⟩
theorem w_neI (q : Q (.bl (!decide (i = j))) H) : rNe (.int i) (.int j) H Q := ⟨rfl, by rw [show decide (V.int i = V.int j) = decide (i = j) by rw [dec_int, Bool.beq_eq_decide_eq]]; exact q⟩
theorem w_isN (q : Q (.bl (decide (v = .non))) H) : rIsN v .non H Q := ⟨rfl, q⟩
theorem w_max (q : Q (.int (max i j)) H) : rMax2 [.int i, .int j] H Q := ⟨i, j, rfl, q⟩
theorem w_min (q : Q (.int (min i j)) H) : rMin2 [.int i, .int j] H Q := ⟨i, j, rfl, q⟩
theorem w_lenL {a : Addr} {ys : List V} (h : SqL K H a ys) (q : Q (.int ys.length) H) : rLenS K [.ref a] H Q := ⟨a, ys, rfl, .inl h, q⟩
theorem w_lenT {a : Addr} {ys : List V} (h : SqT K H a ys) (q : Q (.int ys.length) H) : rLenS K [.ref a] H Q := ⟨a, ys, rfl, .inr h, q⟩
theorem w_tupL {a : Addr} {ys : List V} (h : SqL K H a ys) (q : ∀ l, H l = none → Q (.ref l) (upd H l (.tup ys))) : rTupL K [.ref a] H Q := ⟨a, ys, rfl, h, q⟩
theorem w_chain (q : ta σ H fun x H1 => tb σ H1 fun y H2 => r x y H2 fun z H3 => ∃ k, z = .bl k ∧ (if k = true then tc σ H3 fun w' H4 => r' y w' H4 Q else Q (.bl false) H3)) : tChain r r' ta tb tc σ H Q := q
theorem w_chain3 (q : ta σ H fun x H1 => tb σ H1 fun y H2 => r x y H2 fun z H3 => ∃ k, z = .bl k ∧
 (if k = true then tc σ H3 fun w' H4 => r' y w' H4 fun z' H5 => ∃ k', z' = .bl k' ∧ (if k' = true then td σ H5 fun v' H6 => r'' w' v' H6 Q else Q (.bl false) H5) else Q (.bl false) H3)) : tChain3 r r' r'' ta tb tc td σ H Q := q
theorem w_andV (q : ta σ H fun x H1 => ∃ c, x = .bl c ∧ if c = true then tb σ H1 Q else Q (.bl false) H1) : tAndV ta tb σ H Q := q
theorem w_notV (q : ta σ H fun x H1 => ∃ c, x = .bl c ∧ Q (.bl (!c)) H1) : tNotV ta σ H Q := q
theorem w_bl {k : Bool} {P : Bool → Prop} (q : P k) : ∃ c, V.bl k = .bl c ∧ P c := ⟨k, rfl, q⟩
theorem w_ixT {p : Addr} {xs : List V} (h : SqT K H p xs) (e : atI xs i = some v) (q : Q v H) : rIxT K (.ref p) (.int i) H Q := ⟨p, xs, i, v, rfl, rfl, h, e, q⟩
theorem w_ixL {p : Addr} {xs : List V} (h : SqL K H p xs) (e : atI xs i = some v) (q : Q v H) : rIxL K (.ref p) (.int i) H Q := ⟨p, xs, i, v, rfl, rfl, h, e, q⟩
theorem w_cons {tr : TA} {R : List V → Hp → Prop} (q : ta σ H fun x H1 => tr σ H1 fun xs H2 => R (x :: xs) H2) : tCons ta tr σ H R := q
theorem w_nil {R : List V → Hp → Prop} (q : R [] H) : tNil σ H R := q
theorem w_tup {t : TA} (q : t σ H fun xs H1 => xs.length ≤ sizeLine ∧ ∀ p, H1 p = none → Q (.ref p) (upd H1 p (.tup xs))) : tTup t σ H Q := q
theorem w_lst {t : TA} (q : t σ H fun xs H1 => xs.length ≤ sizeLine ∧ ∀ p, H1 p = none → Q (.ref p) (upd H1 p (.lst xs))) : tLst t σ H Q := q
theorem w_small {xs : List V} {P : Prop} (h : xs.length ≤ 1000) (q : P) : xs.length ≤ sizeLine ∧ P := ⟨Nat.le_of_lt (small1000 h), q⟩
theorem w_CB {rr : List V → Hp → VK → Prop} {t : TA} (q : t σ H fun vs H1 => rr vs H1 Q) : tCB rr t σ H Q := q
theorem w_call {sp : Sp} {dvs : List V} {E : XK} {t : TA} (q : t σ H fun vs H1 => sp (vs ++ dvs) H1 Q E) : tCall sp dvs E t σ H Q := q
theorem w_fld {f : Str} (q : ta σ H fun x H1 => FldR K f x H1 Q) : tFld K ta f σ H Q := q
theorem w_fldR {f : Str} {a C dx : Addr} {fs : List (Str × V)} (h : H a = some (.ins C dx fs)) (c : Cls K C) (n : NoAttr K C f) (l : fs.lookup f = some v) (q : Q v H) : FldR K f (.ref a) H Q := ⟨a, C, dx, fs, v, rfl, h, c, n, l, q⟩
theorem w_seq {t u : TS} (q : t { D with nx := u D } σ H) : tSeq t u D σ H := q
theorem w_next (q : D.nx σ H) : tNext D σ H := q
theorem w_ret (q : ta σ H D.rt) : tRet ta D σ H := q
theorem w_drop (q : ta σ H fun _ H1 => D.nx σ H1) : tDrop ta D σ H := q
theorem w_ifS {c : TT} {t u : TS} (q : c σ H fun b H1 => if b = true then t D σ H1 else u D σ H1) : tIfS c t u D σ H := q
theorem w_asg {g : TG} (q : ta σ H fun x H1 => g x σ H1 D.nx) : tAsg ta g D σ H := q
theorem w_name {n : Nat} {R : St → Hp → Prop} (q : R (σ.set n (some v)) H) : gName n v σ H R := q
theorem w_for {wi : TI} {g : TG} {tb : TS} (q : wi σ H fun J H1 => ∃ W : Nat → Nat → St → Hp → Prop, (∃ m, W 0 m σ H1) ∧ ∀ i m σ H, W i m σ H →
 (J.stop i H ∧ D.nx σ H) ∨ (J.go i H ∧ ∃ N : St → Hp → Prop, (∀ σ' H', N σ' H' → ∃ m', m' < m ∧ W (i + 1) m' σ' H') ∧ ∀ x H', J.yld i H x H' → g x σ H' fun σ2 H2 => tb { D with nx := N, ct := N, bk := D.nx } σ2 H2)) : tFor wi g tb D σ H := q
theorem w_rng1 {t : TA} {R : It → Hp → Prop} (q : t σ H fun vs H1 => ∃ j : Int, vs = [.int j] ∧ -(2 ^ 62) ≤ j ∧ j < 2 ^ 62 ∧ R (Itr 0 j.toNat) H1) : iRng1 t σ H R := q
theorem w_rng2 {t : TA} {R : It → Hp → Prop} (q : t σ H fun vs H1 => ∃ i j : Int, vs = [.int i, .int j] ∧ (-(2 ^ 62) ≤ i ∧ i < 2 ^ 62 ∧ -(2 ^ 62) ≤ j ∧ j < 2 ^ 62) ∧ R (Itr i (j - i).toNat) H1) : iRng2 t σ H R := q
theorem w_rng3 {t : TA} {R : It → Hp → Prop} (q : t σ H fun vs H1 => ∃ (i j c : Int) (n : Nat), vs = [.int i, .int j, .int c] ∧ RgC i j c n ∧ R (Itc i c n) H1) : iRng3 t σ H R := q
theorem w_iL {R : It → Hp → Prop} (q : ta σ H fun x H1 => ∃ a, x = .ref a ∧ (∃ xs, SqL K H1 a xs) ∧ R (Itl K a) H1) : iList K ta σ H R := q
theorem w_iT {R : It → Hp → Prop} (q : ta σ H fun x H1 => ∃ a, x = .ref a ∧ (∃ xs, SqT K H1 a xs) ∧ R (Itt K a) H1) : iTup K ta σ H R := q
theorem w_brk (q : D.bk σ H) : tBreak D σ H := q
theorem w_sfld {tv : TE} {f : Str} (q : tv σ H fun y H1 => ta σ H1 fun x H2 => SFldR K f x y H2 fun H3 => D.nx σ H3) : sFld K ta tv f D σ H := q
theorem w_sfldR {f : Str} {a C dx : Addr} {y : V} {fs : List (Str × V)} {R : Hp → Prop} (h : H a = some (.ins C dx fs)) (c : Cls K C) (n : NoAttr K C f) (l : fs.length < 1000) (q : R (upd H a (.ins C dx (putF f y fs)))) : SFldR K f (.ref a) y H R := ⟨a, C, dx, fs, rfl, h, c, n, l, q⟩
theorem w_meth {C : Addr} {m : Str} {sp : Sp} {dvs : List V} {E : XK} {t : TA} (q : ta σ H fun x H1 => MethR C m x H1 (t σ H1 fun vs H2 => sp (x :: (vs ++ dvs)) H2 Q E)) : tMeth C m sp dvs E ta t σ H Q := by
 have e : ∀ x H1, MethR C m x H1 (t σ H1 fun vs H2 => sp (x :: (vs ++ dvs)) H2 Q E) = (∃ a dx fs, x = .ref a ∧ H1 a = some (.ins C dx fs) ∧ fs.lookup m = none ∧ t σ H1 fun vs H2 => sp (x :: (vs ++ dvs)) H2 Q E) := fun _ _ => rfl
 exact q
theorem w_methR {C a dx : Addr} {m : Str} {fs : List (Str × V)} {R : Prop} (h : H a = some (.ins C dx fs)) (l : fs.lookup m = none) (q : R) : MethR C m (.ref a) H R := ⟨a, dx, fs, rfl, h, l, q⟩
theorem w_make {C : Addr} {sp : Sp} {dvs : List V} {E : XK} {t : TA} (q : t σ H fun vs H1 => ∀ x dx, H1 x = none → H1 dx = none → dx ≠ x → sp (.ref x :: (vs ++ dvs)) (upd (upd H1 dx (.own x)) x (.ins C dx [])) (fun v H2 => v = .non ∧ Q (.ref x) H2) E) : tMake C sp dvs E t σ H Q := q
theorem w_lc {wi : TI} {g : TG} {tt : TT} {vs : List Nat} (q : wi σ H fun J H1 => ∀ D, H1 D = none → ∃ W : Nat → Nat → Hp → Prop, (∃ m, W 0 m (upd H1 D (.lst []))) ∧ ∀ i m H, W i m H →
 (J.stop i H ∧ Q (.ref D) H) ∨ (J.go i H ∧ ∃ Nx : Hp → Prop, (∀ H', Nx H' → ∃ m', m' < m ∧ W (i + 1) m' H') ∧ ∀ x H', J.yld i H x H' → g x (wipe σ vs) H' fun σ2 H2 => wipe σ2 vs = wipe σ vs ∧ tt σ2 H2 fun b H3 =>
   if b = true then ta σ2 H3 fun y H4 => ∃ acc, H4 D = some (.lst acc) ∧ acc.length < sizeLine ∧ Nx (upd H4 D (.lst (acc ++ [y]))) else Nx H3)) : tLc wi g tt ta vs σ H Q := q
theorem w_sl {rr : V → Option Int → Option Int → Hp → VK → Prop} {tl th : TO} (q : ta σ H fun x H1 => tl σ H1 fun l H2 => th σ H2 fun u H3 => rr x l u H3 Q) : tSl rr ta tl th σ H Q := q
theorem w_part {R : Option Int → Hp → Prop} (q : ta σ H fun x H1 => PartR x H1 R) : tPart ta σ H R := q
theorem w_partR {R : Option Int → Hp → Prop} (q : R (some i) H) : PartR (.int i) H R := ⟨i, rfl, q⟩
theorem w_nopart {R : Option Int → Hp → Prop} (q : R none H) : tNoPart σ H R := q
theorem w_slL {a : Addr} {xs : List V} {lo hi : Option Int} (h : SqL K H a xs) (q : ∀ p, H p = none → Q (.ref p) (upd H p (.lst (cutV xs lo hi)))) : rSlL K (.ref a) lo hi H Q := ⟨a, xs, rfl, h, q⟩
theorem w_cat {a b : Addr} {xs zs : List V} (ha : H a = some (.lst xs)) (hb : H b = some (.lst zs)) (hl : xs.length + zs.length ≤ 1000) (q : ∀ p, H p = none → Q (.ref p) (upd H p (.lst (xs ++ zs)))) : rCat (.ref a) (.ref b) H Q := ⟨a, b, xs, zs, rfl, rfl, ha, hb, Nat.le_of_lt (small1000 hl), q⟩
theorem w_yes {R : Bool → Hp → Prop} (q : R true H) : tYes σ H R := q
theorem w_test {R : Bool → Hp → Prop} (q : ta σ H fun x H' => ∃ k, x = .bl k ∧ R k H') : tTest ta σ H R := q
theorem w_B {R : Bool → Hp → Prop} (q : ta σ H fun x H' => ∃ k, x = .bl k ∧ R k H') : tB ta σ H R := q
theorem w_and {t u : TT} {R : Bool → Hp → Prop} (q : t σ H fun c H1 => if c = true then u σ H1 R else R false H1) : tAnd t u σ H R := q
theorem w_or {t u : TT} {R : Bool → Hp → Prop} (q : t σ H fun c H1 => if c = true then R true H1 else u σ H1 R) : tOr t u σ H R := q
theorem w_not {t : TT} {R : Bool → Hp → Prop} (q : t σ H fun c H1 => R (!c) H1) : tNot t σ H R := q
end
end L2
namespace L2
open PySem PySem.Spec PyProof.Rows
structure IntG (mg : Str → Option Value) (x : Str) (z : Int) where
 v : Value
 g : mg x = some v
 r : RelV (V.int z) v
structure TupG (K : PySem.W.Frag) (mg : Str → Option Value) (x : Str) (d : CD) where
 a : Addr
 g : mg x = some (.ref a)
 r : RelV (V.ref a) (Value.ref a)
 k : KC K (V.ref a) d
structure DefG (K : PySem.W.Frag) (mg : Str → Option Value) (x : Str) (st : Stmt) (ps : List Str) where
 a : Addr
 fd : FuncData
 F : Fun K x x st a fd
 b : Binds K fd ps []
 m : mg x = some (.ref a)
def NAs (K : PySem.W.Frag) (A : Addr) : List Str → Prop
 | [] => True
 | f :: r => NoAttr K A f ∧ NAs K A r
structure ClsG (K : PySem.W.Frag) (mg : Str → Option Value) (x : Str) (fs : List Str) where
 A : Addr
 C : Cls K A
 c : mg x = some (.ref A)
 na : NAs K A fs
structure DefM (K : PySem.W.Frag) (A : Addr) (x qual : Str) (st : Stmt) (ps : List Str) where
 a : Addr
 fd : FuncData
 F : Fun K x qual st a fd
 b : Binds K fd ps []
 m : Meth K A x a
structure DefI (K : PySem.W.Frag) (A : Addr) (qual : Str) (st : Stmt) (ps : List Str) where
 a : Addr
 fd : FuncData
 F : Fun K "__init__" qual st a fd
 b : Binds K fd ps []
 M : Mk K A a
end L2
namespace L2
open PySem PySem.Spec PyProof.Rows
section
variable {X : Cx} {a b e : Expr} {es : List Expr} {ta tb te : TE} {t : TA} {pos pos' p : Pos} {x : Str} {st : Stmt} {ps : List Str} {k j : Nat} {sp : Sp}
theorem fS {N P : List Str} {sc : Scope} (h1 : sc.kind = .function := by rfl) (h2 : sc.isCoroutine = false := by rfl) (h3 : sc.isGenerator = false := by rfl) (h4 : N.Nodup := by decide +kernel) (h5 : N.take P.length = P := by rfl)
   (h6 : ∀ x ∈ P, sc.names.lookup x = some .local ∨ sc.names.lookup x = some .cell := by decide +kernel) (h7 : ∀ y ∈ sc.names, y.2 ≠ .free := by decide +kernel) : FnScope N P sc := ⟨h1, h2, h3, h4, h5, h6, h7⟩
theorem xT (K : PySem.W.Frag) (ha : PE X a ta) (hb : PE X b tb) (hs : PlainIx b := by exact fun _ _ => rfl) (hK : X.K = K := by rfl) : PE X (.Subscript a b pos) (tOp (rIxT K) ta tb) := pe_ix (ixT K hK) ha hb hs
theorem xL (K : PySem.W.Frag) (ha : PE X a ta) (hb : PE X b tb) (hs : PlainIx b := by exact fun _ _ => rfl) (hK : X.K = K := by rfl) : PE X (.Subscript a b pos) (tOp (rIxL K) ta tb) := pe_ix (ixL K hK) ha hb hs
theorem cG (D : DefG X.K X.mg x st ps) (F : FnOk X.prog X.w X.K X.mg X.base CX0 k D.a D.fd ps sp) (hr : Room j X.A) (ha : PA X (e :: es) t) (hj : k ≤ j := by decide) (hg : Gl X x := by rfl) (hdb : (x == ("__debug__" : Str)) = false := by decide)
   (he : starEach (e :: es) X.env = (false, eval e X.env) :: starEach es X.env := by rfl) (hpl : (backTo pos (starEach es X.env)).any (·.1) = false := by rfl) : PE X (.Call (.Name x p) (e :: es) [] pos) (tCall sp [] E0 t) := pe_call F (hr.mono hj) hg D.m D.F.kp D.b .nil pass0 ha hdb he hpl
theorem sA (i : Nat) (hN : X.N.Nodup) (he : PE X e te) (hi : X.N[i]? = some x := by rfl) (hx : Loc X.env.scope x := by first | exact Or.inl rfl | exact Or.inr rfl) (hs : swapsWith e (some (.Name x pos')) pos.line X.env = pure false := by rfl)
   (hf : X.fn x = true ∨ X.env.scope.names.lookup x = some .local := by first | exact .inl rfl | exact .inr rfl | assumption) : PS X (.Assign [.Name x pos'] e pos) (tAsg te (gName i)) := ps_set hN hi hx he hs hf
theorem gN (i : Nat) (hN : X.N.Nodup) (hi : X.N[i]? = some x := by rfl) (hx : Loc X.env.scope x := by first | exact Or.inl rfl | exact Or.inr rfl)
   (hf : X.fn x = true ∨ X.env.scope.names.lookup x = some .local := by first | exact .inl rfl | exact .inr rfl | assumption) : PG X (.Name x pos) (gName i) := pg_name hN hi hx hf
end
end L2
namespace SPx
open PySem PySem.Spec PyProof.Rows L2
structure Tx_motion (K : PySem.W.Frag) (mg : Str → Option Value) where
 FASTEST : IntG mg "FASTEST" (3)
 SPEED_COUNT : IntG mg "SPEED_COUNT" (49)
 BURNS : TupG K mg "BURNS" (.tup [(.tup [(.int (0)), (.int (0))]), (.tup [(.int (-1)), (.int (0))]), (.tup [(.int (0)), (.int (-1))]), (.tup [(.int (0)), (.int (1))]), (.tup [(.int (1)), (.int (0))]), (.tup [(.int (-1)), (.int (-1))]), (.tup [(.int (-1)), (.int (1))]), (.tup [(.int (1)), (.int (-1))]), (.tup [(.int (1)), (.int (1))])])
 is_speed : DefG K mg "is_speed" (top 4) ["vx", "vy"]
 speed_number : DefG K mg "speed_number" (top 5) ["vx", "vy"]
 speed_parts : DefG K mg "speed_parts" (top 6) ["number"]
 burns_at : DefG K mg "burns_at" (top 7) ["vx", "vy"]
 less_than : DefG K mg "less_than" (top 8) ["burn"]
 behind_burn : DefG K mg "behind_burn" (top 9) ["state", "come"]
 behind_tick : DefG K mg "behind_tick" (top 10) ["state", "come"]
structure Tx_places (K : PySem.W.Frag) (mg : Str → Option Value) where
 Field : ClsG K mg "Field" ["width", "height", "stride", "everywhere"]
 Field_init : DefI K Field.A "Field.__init__" (inClass (top 12) 0) ["self", "width", "height"]
 Field_has : DefM K Field.A "has" "Field.has" (inClass (top 12) 1) ["self", "x", "y"]
 Field_place : DefM K Field.A "place" "Field.place" (inClass (top 12) 2) ["self", "x", "y"]
 Field_block : DefM K Field.A "block" "Field.block" (inClass (top 12) 3) ["self", "x1", "y1", "x2", "y2"]
 Field_before : DefM K Field.A "before" "Field.before" (inClass (top 12) 4) ["self", "places", "vx", "vy"]
structure Tx_chart (K : PySem.W.Frag) (mg : Str → Option Value) where
 WAYS : TupG K mg "WAYS" (.tup [(.tup [(.int (1)), (.int (0))]), (.tup [(.int (0)), (.int (1))]), (.tup [(.int (-1)), (.int (0))]), (.tup [(.int (0)), (.int (-1))])])
 WIDEST : IntG mg "WIDEST" (32)
 MOST_BOXES : IntG mg "MOST_BOXES" (8)
 Chart : ClsG K mg "Chart" ["field", "heading", "port", "boxes"]
 Chart_init : DefI K Chart.A "Chart.__init__" (inClass (top 17) 0) ["self", "numbers", "boxes"]
 Chart_is_here : DefM K Chart.A "is_here" "Chart.is_here" (inClass (top 17) 1) ["self", "state"]
 Chart_is_there : DefM K Chart.A "is_there" "Chart.is_there" (inClass (top 17) 2) ["self", "state"]
 boxes_in : DefG K mg "boxes_in" (top 18) ["row"]
 is_chart_as_told : DefG K mg "is_chart_as_told" (top 19) ["numbers", "boxes"]
 is_box_within : DefG K mg "is_box_within" (top 20) ["box", "width", "height"]
 is_port_as_told : DefG K mg "is_port_as_told" (top 21) ["numbers", "boxes"]
 is_in_a_box : DefG K mg "is_in_a_box" (top 22) ["boxes", "x", "y"]
structure Tx_drift (K : PySem.W.Frag) (mg : Str → Option Value) where
 Drifts : ClsG K mg "Drifts" ["field", "harmless"]
 Drifts_init : DefI K Drifts.A "Drifts.__init__" (inClass (top 24) 0) ["self", "chart"]
 Drifts_is_harmless : DefM K Drifts.A "is_harmless" "Drifts.is_harmless" (inClass (top 24) 1) ["self", "state"]
 Drifts_is_free : DefM K Drifts.A "is_free" "Drifts.is_free" (inClass (top 24) 2) ["self", "state", "burn"]
 harmless_places : DefG K mg "harmless_places" (top 25) ["chart", "speed"]
 touching_soon : DefG K mg "touching_soon" (top 26) ["chart", "speed"]
 touching_ever : DefG K mg "touching_ever" (top 27) ["field", "soon", "speed"]
 coming_to_port : DefG K mg "coming_to_port" (top 28) ["chart", "soon"]
structure Tx_messages (K : PySem.W.Frag) (mg : Str → Option Value) where
 MESSAGE_LENGTH : IntG mg "MESSAGE_LENGTH" (8)
 ORDER : IntG mg "ORDER" (1)
 ANSWER : IntG mg "ANSWER" (2)
 REPORT : IntG mg "REPORT" (3)
 ALONGSIDE : IntG mg "ALONGSIDE" (1)
 AWAY : IntG mg "AWAY" (2)
 GREATEST_WHAT : IntG mg "GREATEST_WHAT" (5)
 GREATEST_PLACE : IntG mg "GREATEST_PLACE" (31)
 NOT_AS_TOLD : IntG mg "NOT_AS_TOLD" (-22)
 TOO_MANY : IntG mg "TOO_MANY" (-28)
 NO_MESSAGE : IntG mg "NO_MESSAGE" (-71)
 is_order : DefG K mg "is_order" (top 38) ["m"]
 is_answer : DefG K mg "is_answer" (top 39) ["m"]
 is_report : DefG K mg "is_report" (top 40) ["m"]
 is_message : DefG K mg "is_message" (top 41) ["m", "first"]
 is_of_an_order : DefG K mg "is_of_an_order" (top 42) ["m"]
 is_order_what : DefG K mg "is_order_what" (top 43) ["what"]
 what_of : DefG K mg "what_of" (top 44) ["m"]
 number_of_order : DefG K mg "number_of_order" (top 45) ["m"]
 number_of_report : DefG K mg "number_of_report" (top 46) ["m"]
 state_told : DefG K mg "state_told" (top 47) ["m"]
 order_to : DefG K mg "order_to" (top 48) ["what", "number"]
 answer_to : DefG K mg "answer_to" (top 49) ["what", "number"]
 of_an_order : DefG K mg "of_an_order" (top 50) ["first", "what", "number"]
 report_of : DefG K mg "report_of" (top 51) ["what", "state", "number"]
 report_without_state : DefG K mg "report_without_state" (top 52) ["what", "number"]
 low_first : DefG K mg "low_first" (top 53) ["number", "count"]
 number_from : DefG K mg "number_from" (top 54) ["row"]
 sent : DefG K mg "sent" (top 55) ["message"]
structure Tx_routes (K : PySem.W.Frag) (mg : Str → Option Value) where
 MOST_TICKS : IntG mg "MOST_TICKS" (250)
 MOST_MISFIRES : IntG mg "MOST_MISFIRES" (7)
 SureRoutes : ClsG K mg "SureRoutes" ["field", "drifts", "levels"]
 AwayRoutes : ClsG K mg "AwayRoutes" ["field", "drifts", "levels"]
 SureRoutes_init : DefI K SureRoutes.A "SureRoutes.__init__" (inClass (top 62) 0) ["self", "chart", "drifts"]
 SureRoutes_is_sure : DefM K SureRoutes.A "is_sure" "SureRoutes.is_sure" (inClass (top 62) 1) ["self", "state", "ticks", "misfires"]
 SureRoutes_most_misfires : DefM K SureRoutes.A "most_misfires" "SureRoutes.most_misfires" (inClass (top 62) 2) ["self", "state"]
 SureRoutes_chosen_burn : DefM K SureRoutes.A "chosen_burn" "SureRoutes.chosen_burn" (inClass (top 62) 3) ["self", "state", "misfires"]
 SureRoutes_is_sure_by : DefM K SureRoutes.A "is_sure_by" "SureRoutes.is_sure_by" (inClass (top 62) 4) ["self", "state", "burn", "ticks", "misfires"]
 AwayRoutes_init : DefI K AwayRoutes.A "AwayRoutes.__init__" (inClass (top 63) 0) ["self", "chart", "drifts"]
 AwayRoutes_is_away : DefM K AwayRoutes.A "is_away" "AwayRoutes.is_away" (inClass (top 63) 1) ["self", "state", "ticks"]
 AwayRoutes_chosen_burn : DefM K AwayRoutes.A "chosen_burn" "AwayRoutes.chosen_burn" (inClass (top 63) 2) ["self", "state"]
 AwayRoutes_is_away_by : DefM K AwayRoutes.A "is_away_by" "AwayRoutes.is_away_by" (inClass (top 63) 3) ["self", "state", "burn", "ticks"]
 has_state : DefG K mg "has_state" (top 64) ["field", "places_by_speed", "state"]
 sure_levels : DefG K mg "sure_levels" (top 65) ["chart", "drifts"]
 next_sure_level : DefG K mg "next_sure_level" (top 66) ["field", "harmless", "there", "moves", "level"]
 away_levels : DefG K mg "away_levels" (top 67) ["chart", "drifts"]
 next_away_level : DefG K mg "next_away_level" (top 68) ["field", "harmless", "there", "moves", "away"]
 there_places : DefG K mg "there_places" (top 69) ["chart"]
 moves_by_speed : DefG K mg "moves_by_speed" (top 70) []
 speeds_behind : DefG K mg "speeds_behind" (top 71) ["speed", "burn"]
 number_behind : DefG K mg "number_behind" (top 72) ["speed", "come"]
 before_drift : DefG K mg "before_drift" (top 73) ["field", "places", "k"]
 places_by_burns : DefG K mg "places_by_burns" (top 74) ["moves", "on_time", "on_misfire"]
structure Tx_craft (K : PySem.W.Frag) (mg : Str → Option Value) where
 NO_BURN : TupG K mg "NO_BURN" (.tup [(.int (0)), (.int (0))])
 IDLE : IntG mg "IDLE" (0)
 COMING : IntG mg "COMING" (1)
 GOING : IntG mg "GOING" (2)
 HELPLESS : IntG mg "HELPLESS" (3)
 NOT_HERE : IntG mg "NOT_HERE" (4)
 THERE : IntG mg "THERE" (5)
 Craft : ClsG K mg "Craft" ["chart", "mode", "last_order", "tick_count", "drifts", "sure_routes", "away_routes", "expected", "misfires"]
 Craft_init : DefI K Craft.A "Craft.__init__" (inClass (top 83) 0) ["self"]
 Craft_begin : DefM K Craft.A "begin" "Craft.begin" (inClass (top 83) 1) ["self", "chart"]
 Craft_expect_nothing : DefM K Craft.A "expect_nothing" "Craft.expect_nothing" (inClass (top 83) 2) ["self"]
 Craft_start : DefM K Craft.A "start" "Craft.start" (inClass (top 83) 3) ["self", "numbers", "row"]
 Craft_tick : DefM K Craft.A "tick" "Craft.tick" (inClass (top 83) 4) ["self", "state"]
 Craft_decide : DefM K Craft.A "decide" "Craft.decide" (inClass (top 83) 5) ["self", "state"]
 Craft_come_alongside : DefM K Craft.A "come_alongside" "Craft.come_alongside" (inClass (top 83) 6) ["self", "state"]
 Craft_misfires_at : DefM K Craft.A "misfires_at" "Craft.misfires_at" (inClass (top 83) 7) ["self", "state"]
 Craft_go_away : DefM K Craft.A "go_away" "Craft.go_away" (inClass (top 83) 8) ["self", "state"]
 Craft_find_sure_routes : DefM K Craft.A "find_sure_routes" "Craft.find_sure_routes" (inClass (top 83) 9) ["self"]
 Craft_find_away_routes : DefM K Craft.A "find_away_routes" "Craft.find_away_routes" (inClass (top 83) 10) ["self"]
 Craft_find_drifts : DefM K Craft.A "find_drifts" "Craft.find_drifts" (inClass (top 83) 11) ["self"]
 Craft_heard : DefM K Craft.A "heard" "Craft.heard" (inClass (top 83) 12) ["self", "m"]
 Craft_told_state : DefM K Craft.A "told_state" "Craft.told_state" (inClass (top 83) 13) ["self"]
structure Tx_people (K : PySem.W.Frag) (mg : Str → Option Value) where
 MOST_ORDERS : IntG mg "MOST_ORDERS" (65535)
 TICKS_BETWEEN : IntG mg "TICKS_BETWEEN" (5)
 PeoplesEnd : ClsG K mg "PeoplesEnd" ["order_number", "order_what", "order_answered", "report_number", "report_what", "report_state", "tick_count"]
 PeoplesEnd_init : DefI K PeoplesEnd.A "PeoplesEnd.__init__" (inClass (top 87) 0) ["self"]
 PeoplesEnd_begin : DefM K PeoplesEnd.A "begin" "PeoplesEnd.begin" (inClass (top 87) 1) ["self"]
 PeoplesEnd_start : DefM K PeoplesEnd.A "start" "PeoplesEnd.start" (inClass (top 87) 2) ["self"]
 PeoplesEnd_order : DefM K PeoplesEnd.A "order" "PeoplesEnd.order" (inClass (top 87) 3) ["self", "what"]
 PeoplesEnd_sent_order : DefM K PeoplesEnd.A "sent_order" "PeoplesEnd.sent_order" (inClass (top 87) 4) ["self"]
 PeoplesEnd_heard : DefM K PeoplesEnd.A "heard" "PeoplesEnd.heard" (inClass (top 87) 5) ["self", "m"]
 PeoplesEnd_hear_answer : DefM K PeoplesEnd.A "hear_answer" "PeoplesEnd.hear_answer" (inClass (top 87) 6) ["self", "m"]
 PeoplesEnd_hear_report : DefM K PeoplesEnd.A "hear_report" "PeoplesEnd.hear_report" (inClass (top 87) 7) ["self", "m"]
 PeoplesEnd_tick : DefM K PeoplesEnd.A "tick" "PeoplesEnd.tick" (inClass (top 87) 8) ["self"]
 PeoplesEnd_awaits_answer : DefM K PeoplesEnd.A "awaits_answer" "PeoplesEnd.awaits_answer" (inClass (top 87) 9) ["self"]
 PeoplesEnd_told_state : DefM K PeoplesEnd.A "told_state" "PeoplesEnd.told_state" (inClass (top 87) 10) ["self"]
structure Tx_desk (K : PySem.W.Frag) (mg : Str → Option Value) where
 CR_START : IntG mg "CR_START" (0)
 CR_TICK : IntG mg "CR_TICK" (1)
 CR_HEARD : IntG mg "CR_HEARD" (2)
 PE_START : IntG mg "PE_START" (4)
 PE_ORDER : IntG mg "PE_ORDER" (5)
 PE_HEARD : IntG mg "PE_HEARD" (6)
 PE_TICK : IntG mg "PE_TICK" (7)
 NUMBERS_OF : TupG K mg "NUMBERS_OF" (.tup [(.int (7)), (.int (4)), (.int (0)), (.int (0)), (.int (0)), (.int (1)), (.int (0)), (.int (0)), (.int (0))])
 HAS_ROW : TupG K mg "HAS_ROW" (.tup [(.bl true), (.bl false), (.bl true), (.bl false), (.bl false), (.bl false), (.bl true), (.bl false), (.bl false)])
 answers : DefG K mg "answers" (top 98) ["calls"]
 answer_call : DefG K mg "answer_call" (top 99) ["craft", "people", "call", "numbers", "row"]
 answer_of_craft : DefG K mg "answer_of_craft" (top 100) ["craft", "call", "numbers", "row"]
 answer_of_people : DefG K mg "answer_of_people" (top 101) ["people", "call", "numbers", "row"]
structure Txt (K : PySem.W.Frag) (mg : Str → Option Value) where
 n_all : mg "all" = none
 n_any : mg "any" = none
 n_len : mg "len" = none
 n_max : mg "max" = none
 n_min : mg "min" = none
 n_range : mg "range" = none
 n_reversed : mg "reversed" = none
 n_tuple : mg "tuple" = none
 motion : Tx_motion K mg
 places : Tx_places K mg
 chart : Tx_chart K mg
 drift : Tx_drift K mg
 messages : Tx_messages K mg
 routes : Tx_routes K mg
 craft : Tx_craft K mg
 people : Tx_people K mg
 desk : Tx_desk K mg
end SPx
namespace SPx
open PySem PySem.Spec PyProof.Rows L2
section
variable {K : PySem.W.Frag} {mg : Str → Option Value} {h : Heap}
def intG_of (X : K.In h) (G : h.Ns mainGlobals mg) {x : Str} {z : Int} {t : Tok} (a : PySem.W.nsIn K mainGlobals x = some (some (.int z t))) : IntG mg x z := ⟨_, PySem.W.mg_of X G a, ⟨t, rfl⟩⟩
def tupG_of (X : K.In h) (G : h.Ns mainGlobals mg) {x : Str} {f : Addr} {d : CD} (a : PySem.W.nsIn K mainGlobals x = some (some (.ref f))) (k : KC K (.ref f) d) : TupG K mg x d := ⟨f, PySem.W.mg_of X G a, rfl, k⟩
theorem kc_of {f : Addr} {od : Option Addr} {its : Array Value} {n : Nat} {sl : Array (Option Value)} {xs : List V} {ds : List CD} (l : K.lookup f = some ⟨.type "tuple", od, .seq its n, sl⟩) (s : its.size ≤ sizeLine) (v : Vals xs its.toList) (k : KCs K xs ds) : KC K (.ref f) (.tup ds) := .tup ⟨_, its, n, l, rfl, rfl, s, v⟩ k
def BindF (x qual : Str) (st : Stmt) (ps : List Str) : Prop := ∀ (kV doc pm : Value) (an : Option Addr) (cdv ct : Value) (us : List Value), us.length = ps.length → bindArgs (PySem.W.fnOf x qual (defArgs st) (defBody st) (defScope st) .none kV doc pm an cdv ct) ⟨us, []⟩ = pure (ps.zip us)
variable {f A : Addr} {x qual : Str} {st : Stmt} {ps : List Str} {oc kV doc pm cdv ct : Value} {od an : Option Addr} {osl : Array (Option Value)}
def defG_of (X : K.In h) (G : h.Ns mainGlobals mg) (b : BindF x x st ps) (a : PySem.W.nsIn K mainGlobals x = some (some (.ref f))) (l : K.lookup f = some ⟨oc, od, .func (PySem.W.fnOf x x (defArgs st) (defBody st) (defScope st) .none kV doc pm an cdv ct), osl⟩) (c : PySem.W.codeIn K cdv x = true) (k : PySem.W.keepIn K (.ref f) = true) : DefG K mg x st ps :=
 ⟨f, _, fun_mk l c k, (fun_mk l c k).binds b, PySem.W.mg_of X G a⟩
def defM_of (b : BindF x qual st ps) (a : PySem.W.findIn K (.ref A) x = some (some (.ref f))) (i : PySem.W.isFn K (.ref f) = true) (l : K.lookup f = some ⟨oc, od, .func (PySem.W.fnOf x qual (defArgs st) (defBody st) (defScope st) .none kV doc pm an cdv ct), osl⟩) (c : PySem.W.codeIn K cdv qual = true) (k : PySem.W.keepIn K (.ref f) = true) : DefM K A x qual st ps :=
 ⟨f, _, fun_mk l c k, (fun_mk l c k).binds b, ⟨a, i, k⟩⟩
def defI_of (b : BindF "__init__" qual st ps) (a : PySem.W.findIn K (.ref A) "__init__" = some (some (.ref f))) (i : PySem.W.isFn K (.ref f) = true) (l : K.lookup f = some ⟨oc, od, .func (PySem.W.fnOf "__init__" qual (defArgs st) (defBody st) (defScope st) .none kV doc pm an cdv ct), osl⟩) (c : PySem.W.codeIn K cdv qual = true) (k : PySem.W.keepIn K (.ref f) = true)
   (mk : PySem.W.makesIn K A = true) (kc : PySem.W.keepIn K (.ref A) = true) : DefI K A qual st ps :=
 ⟨f, _, fun_mk l c k, (fun_mk l c k).binds b, ⟨mk, a, i, kc⟩⟩
structure ClsF (K : PySem.W.Frag) (mg : Str → Option Value) (x : Str) (fs : List Str) (A : Addr) : Prop where
 C : Cls K A
 c : mg x = some (.ref A)
 na : NAs K A fs
theorem clsF_of (X : K.In h) (G : h.Ns mainGlobals mg) {fs : List Str} (a : PySem.W.nsIn K mainGlobals x = some (some (.ref A))) (pg : PySem.W.plainGet K A Str.empty = true) (hd : PySem.W.hasDictIn K A = true) (po : PySem.W.plainOver K A = true)
   (sa : PySem.W.findIn K (.ref A) "__setattr__" = some (some (.builtin "object.__setattr__"))) (na : NAs K A fs) : ClsF K mg x fs A := ⟨⟨pg, hd, po, sa⟩, PySem.W.mg_of X G a, na⟩
theorem na_cons {fs : List Str} (a : PySem.W.findIn K (.ref A) x = some none) (r : NAs K A fs) : NAs K A (x :: fs) := ⟨a, r⟩
theorem na_nil : NAs K A [] := trivial
end
theorem b0 {x qual : Str} {st : Stmt} (h : ∀ (kV doc pm : Value) (an : Option Addr) (cdv ct : Value), bindArgs (PySem.W.fnOf x qual (defArgs st) (defBody st) (defScope st) .none kV doc pm an cdv ct) ⟨[], []⟩ = pure (([] : List Str).zip ([] : List Value)) := by intros; rfl) : BindF x qual st [] := fun a b c d e f us hl => match us, hl with | [], _ => h a b c d e f
theorem b1 {x qual : Str} {st : Stmt} {p0 : Str} (h : ∀ (kV doc pm : Value) (an : Option Addr) (cdv ct u0 : Value), bindArgs (PySem.W.fnOf x qual (defArgs st) (defBody st) (defScope st) .none kV doc pm an cdv ct) ⟨[u0], []⟩ = pure (([p0] : List Str).zip [u0]) := by intros; rfl) : BindF x qual st [p0] := fun a b c d e f us hl => match us, hl with | [u0], _ => h a b c d e f u0
theorem b2 {x qual : Str} {st : Stmt} {p0 p1 : Str} (h : ∀ (kV doc pm : Value) (an : Option Addr) (cdv ct u0 u1 : Value), bindArgs (PySem.W.fnOf x qual (defArgs st) (defBody st) (defScope st) .none kV doc pm an cdv ct) ⟨[u0, u1], []⟩ = pure (([p0, p1] : List Str).zip [u0, u1]) := by intros; rfl) : BindF x qual st [p0, p1] := fun a b c d e f us hl => match us, hl with | [u0, u1], _ => h a b c d e f u0 u1
theorem b3 {x qual : Str} {st : Stmt} {p0 p1 p2 : Str} (h : ∀ (kV doc pm : Value) (an : Option Addr) (cdv ct u0 u1 u2 : Value), bindArgs (PySem.W.fnOf x qual (defArgs st) (defBody st) (defScope st) .none kV doc pm an cdv ct) ⟨[u0, u1, u2], []⟩ = pure (([p0, p1, p2] : List Str).zip [u0, u1, u2]) := by intros; rfl) : BindF x qual st [p0, p1, p2] := fun a b c d e f us hl => match us, hl with | [u0, u1, u2], _ => h a b c d e f u0 u1 u2
theorem b4 {x qual : Str} {st : Stmt} {p0 p1 p2 p3 : Str} (h : ∀ (kV doc pm : Value) (an : Option Addr) (cdv ct u0 u1 u2 u3 : Value), bindArgs (PySem.W.fnOf x qual (defArgs st) (defBody st) (defScope st) .none kV doc pm an cdv ct) ⟨[u0, u1, u2, u3], []⟩ = pure (([p0, p1, p2, p3] : List Str).zip [u0, u1, u2, u3]) := by intros; rfl) : BindF x qual st [p0, p1, p2, p3] := fun a b c d e f us hl => match us, hl with | [u0, u1, u2, u3], _ => h a b c d e f u0 u1 u2 u3
theorem b5 {x qual : Str} {st : Stmt} {p0 p1 p2 p3 p4 : Str} (h : ∀ (kV doc pm : Value) (an : Option Addr) (cdv ct u0 u1 u2 u3 u4 : Value), bindArgs (PySem.W.fnOf x qual (defArgs st) (defBody st) (defScope st) .none kV doc pm an cdv ct) ⟨[u0, u1, u2, u3, u4], []⟩ = pure (([p0, p1, p2, p3, p4] : List Str).zip [u0, u1, u2, u3, u4]) := by intros; rfl) : BindF x qual st [p0, p1, p2, p3, p4] := fun a b c d e f us hl => match us, hl with | [u0, u1, u2, u3, u4], _ => h a b c d e f u0 u1 u2 u3 u4
theorem kt_BURNS {K : PySem.W.Frag} {f1 t2 t3 t4 t5 t6 t7 t8 t9 t10 : Addr} {n11 n16 n21 n26 n31 n36 n41 n46 n51 n56 : Nat} {o12 o17 o22 o27 o32 o37 o42 o47 o52 o57 : Option Addr} {s13 s18 s23 s28 s33 s38 s43 s48 s53 s58 : Array (Option Value)} {k14 k15 k19 k20 k24 k25 k29 k30 k34 k35 k39 k40 k44 k45 k49 k50 k54 k55 : Tok} (h0 : K.lookup f1 = some ⟨.type "tuple", o12, .seq #[.ref t2, .ref t3, .ref t4, .ref t5, .ref t6, .ref t7, .ref t8, .ref t9, .ref t10] n11, s13⟩) (h1 : K.lookup t2 = some ⟨.type "tuple", o17, .seq #[.int (0) k14, .int (0) k15] n16, s18⟩) (h2 : K.lookup t3 = some ⟨.type "tuple", o22, .seq #[.int (-1) k19, .int (0) k20] n21, s23⟩) (h3 : K.lookup t4 = some ⟨.type "tuple", o27, .seq #[.int (0) k24, .int (-1) k25] n26, s28⟩) (h4 : K.lookup t5 = some ⟨.type "tuple", o32, .seq #[.int (0) k29, .int (1) k30] n31, s33⟩) (h5 : K.lookup t6 = some ⟨.type "tuple", o37, .seq #[.int (1) k34, .int (0) k35] n36, s38⟩) (h6 : K.lookup t7 = some ⟨.type "tuple", o42, .seq #[.int (-1) k39, .int (-1) k40] n41, s43⟩) (h7 : K.lookup t8 = some ⟨.type "tuple", o47, .seq #[.int (-1) k44, .int (1) k45] n46, s48⟩) (h8 : K.lookup t9 = some ⟨.type "tuple", o52, .seq #[.int (1) k49, .int (-1) k50] n51, s53⟩) (h9 : K.lookup t10 = some ⟨.type "tuple", o57, .seq #[.int (1) k54, .int (1) k55] n56, s58⟩) : KC K (.ref f1) (.tup [(.tup [(.int (0)), (.int (0))]), (.tup [(.int (-1)), (.int (0))]), (.tup [(.int (0)), (.int (-1))]), (.tup [(.int (0)), (.int (1))]), (.tup [(.int (1)), (.int (0))]), (.tup [(.int (-1)), (.int (-1))]), (.tup [(.int (-1)), (.int (1))]), (.tup [(.int (1)), (.int (-1))]), (.tup [(.int (1)), (.int (1))])]) := (kc_of (xs := [.ref t2, .ref t3, .ref t4, .ref t5, .ref t6, .ref t7, .ref t8, .ref t9, .ref t10]) h0 (by show 9 ≤ sizeLine; decide) (.cons rfl (.cons rfl (.cons rfl (.cons rfl (.cons rfl (.cons rfl (.cons rfl (.cons rfl (.cons rfl .nil))))))))) (.cons (kc_of (xs := [.int (0), .int (0)]) h1 (by show 2 ≤ sizeLine; decide) (.cons ⟨_, rfl⟩ (.cons ⟨_, rfl⟩ .nil)) (.cons (.int _) (.cons (.int _) .nil))) (.cons (kc_of (xs := [.int (-1), .int (0)]) h2 (by show 2 ≤ sizeLine; decide) (.cons ⟨_, rfl⟩ (.cons ⟨_, rfl⟩ .nil)) (.cons (.int _) (.cons (.int _) .nil))) (.cons (kc_of (xs := [.int (0), .int (-1)]) h3 (by show 2 ≤ sizeLine; decide) (.cons ⟨_, rfl⟩ (.cons ⟨_, rfl⟩ .nil)) (.cons (.int _) (.cons (.int _) .nil))) (.cons (kc_of (xs := [.int (0), .int (1)]) h4 (by show 2 ≤ sizeLine; decide) (.cons ⟨_, rfl⟩ (.cons ⟨_, rfl⟩ .nil)) (.cons (.int _) (.cons (.int _) .nil))) (.cons (kc_of (xs := [.int (1), .int (0)]) h5 (by show 2 ≤ sizeLine; decide) (.cons ⟨_, rfl⟩ (.cons ⟨_, rfl⟩ .nil)) (.cons (.int _) (.cons (.int _) .nil))) (.cons (kc_of (xs := [.int (-1), .int (-1)]) h6 (by show 2 ≤ sizeLine; decide) (.cons ⟨_, rfl⟩ (.cons ⟨_, rfl⟩ .nil)) (.cons (.int _) (.cons (.int _) .nil))) (.cons (kc_of (xs := [.int (-1), .int (1)]) h7 (by show 2 ≤ sizeLine; decide) (.cons ⟨_, rfl⟩ (.cons ⟨_, rfl⟩ .nil)) (.cons (.int _) (.cons (.int _) .nil))) (.cons (kc_of (xs := [.int (1), .int (-1)]) h8 (by show 2 ≤ sizeLine; decide) (.cons ⟨_, rfl⟩ (.cons ⟨_, rfl⟩ .nil)) (.cons (.int _) (.cons (.int _) .nil))) (.cons (kc_of (xs := [.int (1), .int (1)]) h9 (by show 2 ≤ sizeLine; decide) (.cons ⟨_, rfl⟩ (.cons ⟨_, rfl⟩ .nil)) (.cons (.int _) (.cons (.int _) .nil))) .nil))))))))))
def tx_places {K : PySem.W.Frag} {mg : Str → Option Value} {A_Field : Addr} (Field : ClsF K mg "Field" ["width", "height", "stride", "everywhere"] A_Field) (Field_init : DefI K A_Field "Field.__init__" (inClass (top 12) 0) ["self", "width", "height"]) (Field_has : DefM K A_Field "has" "Field.has" (inClass (top 12) 1) ["self", "x", "y"]) (Field_place : DefM K A_Field "place" "Field.place" (inClass (top 12) 2) ["self", "x", "y"]) (Field_block : DefM K A_Field "block" "Field.block" (inClass (top 12) 3) ["self", "x1", "y1", "x2", "y2"]) (Field_before : DefM K A_Field "before" "Field.before" (inClass (top 12) 4) ["self", "places", "vx", "vy"]) : Tx_places K mg := ⟨⟨A_Field, Field.C, Field.c, Field.na⟩, Field_init, Field_has, Field_place, Field_block, Field_before⟩
theorem kt_WAYS {K : PySem.W.Frag} {f1 t2 t3 t4 t5 : Addr} {n6 n11 n16 n21 n26 : Nat} {o7 o12 o17 o22 o27 : Option Addr} {s8 s13 s18 s23 s28 : Array (Option Value)} {k9 k10 k14 k15 k19 k20 k24 k25 : Tok} (h0 : K.lookup f1 = some ⟨.type "tuple", o7, .seq #[.ref t2, .ref t3, .ref t4, .ref t5] n6, s8⟩) (h1 : K.lookup t2 = some ⟨.type "tuple", o12, .seq #[.int (1) k9, .int (0) k10] n11, s13⟩) (h2 : K.lookup t3 = some ⟨.type "tuple", o17, .seq #[.int (0) k14, .int (1) k15] n16, s18⟩) (h3 : K.lookup t4 = some ⟨.type "tuple", o22, .seq #[.int (-1) k19, .int (0) k20] n21, s23⟩) (h4 : K.lookup t5 = some ⟨.type "tuple", o27, .seq #[.int (0) k24, .int (-1) k25] n26, s28⟩) : KC K (.ref f1) (.tup [(.tup [(.int (1)), (.int (0))]), (.tup [(.int (0)), (.int (1))]), (.tup [(.int (-1)), (.int (0))]), (.tup [(.int (0)), (.int (-1))])]) := (kc_of (xs := [.ref t2, .ref t3, .ref t4, .ref t5]) h0 (by show 4 ≤ sizeLine; decide) (.cons rfl (.cons rfl (.cons rfl (.cons rfl .nil)))) (.cons (kc_of (xs := [.int (1), .int (0)]) h1 (by show 2 ≤ sizeLine; decide) (.cons ⟨_, rfl⟩ (.cons ⟨_, rfl⟩ .nil)) (.cons (.int _) (.cons (.int _) .nil))) (.cons (kc_of (xs := [.int (0), .int (1)]) h2 (by show 2 ≤ sizeLine; decide) (.cons ⟨_, rfl⟩ (.cons ⟨_, rfl⟩ .nil)) (.cons (.int _) (.cons (.int _) .nil))) (.cons (kc_of (xs := [.int (-1), .int (0)]) h3 (by show 2 ≤ sizeLine; decide) (.cons ⟨_, rfl⟩ (.cons ⟨_, rfl⟩ .nil)) (.cons (.int _) (.cons (.int _) .nil))) (.cons (kc_of (xs := [.int (0), .int (-1)]) h4 (by show 2 ≤ sizeLine; decide) (.cons ⟨_, rfl⟩ (.cons ⟨_, rfl⟩ .nil)) (.cons (.int _) (.cons (.int _) .nil))) .nil)))))
def tx_chart {K : PySem.W.Frag} {mg : Str → Option Value} (WAYS : TupG K mg "WAYS" (.tup [(.tup [(.int (1)), (.int (0))]), (.tup [(.int (0)), (.int (1))]), (.tup [(.int (-1)), (.int (0))]), (.tup [(.int (0)), (.int (-1))])])) (WIDEST : IntG mg "WIDEST" (32)) (MOST_BOXES : IntG mg "MOST_BOXES" (8)) {A_Chart : Addr} (Chart : ClsF K mg "Chart" ["field", "heading", "port", "boxes"] A_Chart) (Chart_init : DefI K A_Chart "Chart.__init__" (inClass (top 17) 0) ["self", "numbers", "boxes"]) (Chart_is_here : DefM K A_Chart "is_here" "Chart.is_here" (inClass (top 17) 1) ["self", "state"]) (Chart_is_there : DefM K A_Chart "is_there" "Chart.is_there" (inClass (top 17) 2) ["self", "state"]) (boxes_in : DefG K mg "boxes_in" (top 18) ["row"]) (is_chart_as_told : DefG K mg "is_chart_as_told" (top 19) ["numbers", "boxes"]) (is_box_within : DefG K mg "is_box_within" (top 20) ["box", "width", "height"]) (is_port_as_told : DefG K mg "is_port_as_told" (top 21) ["numbers", "boxes"]) (is_in_a_box : DefG K mg "is_in_a_box" (top 22) ["boxes", "x", "y"]) : Tx_chart K mg := ⟨WAYS, WIDEST, MOST_BOXES, ⟨A_Chart, Chart.C, Chart.c, Chart.na⟩, Chart_init, Chart_is_here, Chart_is_there, boxes_in, is_chart_as_told, is_box_within, is_port_as_told, is_in_a_box⟩
def tx_drift {K : PySem.W.Frag} {mg : Str → Option Value} {A_Drifts : Addr} (Drifts : ClsF K mg "Drifts" ["field", "harmless"] A_Drifts) (Drifts_init : DefI K A_Drifts "Drifts.__init__" (inClass (top 24) 0) ["self", "chart"]) (Drifts_is_harmless : DefM K A_Drifts "is_harmless" "Drifts.is_harmless" (inClass (top 24) 1) ["self", "state"]) (Drifts_is_free : DefM K A_Drifts "is_free" "Drifts.is_free" (inClass (top 24) 2) ["self", "state", "burn"]) (harmless_places : DefG K mg "harmless_places" (top 25) ["chart", "speed"]) (touching_soon : DefG K mg "touching_soon" (top 26) ["chart", "speed"]) (touching_ever : DefG K mg "touching_ever" (top 27) ["field", "soon", "speed"]) (coming_to_port : DefG K mg "coming_to_port" (top 28) ["chart", "soon"]) : Tx_drift K mg := ⟨⟨A_Drifts, Drifts.C, Drifts.c, Drifts.na⟩, Drifts_init, Drifts_is_harmless, Drifts_is_free, harmless_places, touching_soon, touching_ever, coming_to_port⟩
def tx_routes {K : PySem.W.Frag} {mg : Str → Option Value} (MOST_TICKS : IntG mg "MOST_TICKS" (250)) (MOST_MISFIRES : IntG mg "MOST_MISFIRES" (7)) {A_SureRoutes : Addr} (SureRoutes : ClsF K mg "SureRoutes" ["field", "drifts", "levels"] A_SureRoutes) {A_AwayRoutes : Addr} (AwayRoutes : ClsF K mg "AwayRoutes" ["field", "drifts", "levels"] A_AwayRoutes) (SureRoutes_init : DefI K A_SureRoutes "SureRoutes.__init__" (inClass (top 62) 0) ["self", "chart", "drifts"]) (SureRoutes_is_sure : DefM K A_SureRoutes "is_sure" "SureRoutes.is_sure" (inClass (top 62) 1) ["self", "state", "ticks", "misfires"]) (SureRoutes_most_misfires : DefM K A_SureRoutes "most_misfires" "SureRoutes.most_misfires" (inClass (top 62) 2) ["self", "state"]) (SureRoutes_chosen_burn : DefM K A_SureRoutes "chosen_burn" "SureRoutes.chosen_burn" (inClass (top 62) 3) ["self", "state", "misfires"]) (SureRoutes_is_sure_by : DefM K A_SureRoutes "is_sure_by" "SureRoutes.is_sure_by" (inClass (top 62) 4) ["self", "state", "burn", "ticks", "misfires"]) (AwayRoutes_init : DefI K A_AwayRoutes "AwayRoutes.__init__" (inClass (top 63) 0) ["self", "chart", "drifts"]) (AwayRoutes_is_away : DefM K A_AwayRoutes "is_away" "AwayRoutes.is_away" (inClass (top 63) 1) ["self", "state", "ticks"]) (AwayRoutes_chosen_burn : DefM K A_AwayRoutes "chosen_burn" "AwayRoutes.chosen_burn" (inClass (top 63) 2) ["self", "state"]) (AwayRoutes_is_away_by : DefM K A_AwayRoutes "is_away_by" "AwayRoutes.is_away_by" (inClass (top 63) 3) ["self", "state", "burn", "ticks"]) (has_state : DefG K mg "has_state" (top 64) ["field", "places_by_speed", "state"]) (sure_levels : DefG K mg "sure_levels" (top 65) ["chart", "drifts"]) (next_sure_level : DefG K mg "next_sure_level" (top 66) ["field", "harmless", "there", "moves", "level"]) (away_levels : DefG K mg "away_levels" (top 67) ["chart", "drifts"]) (next_away_level : DefG K mg "next_away_level" (top 68) ["field", "harmless", "there", "moves", "away"]) (there_places : DefG K mg "there_places" (top 69) ["chart"]) (moves_by_speed : DefG K mg "moves_by_speed" (top 70) []) (speeds_behind : DefG K mg "speeds_behind" (top 71) ["speed", "burn"]) (number_behind : DefG K mg "number_behind" (top 72) ["speed", "come"]) (before_drift : DefG K mg "before_drift" (top 73) ["field", "places", "k"]) (places_by_burns : DefG K mg "places_by_burns" (top 74) ["moves", "on_time", "on_misfire"]) : Tx_routes K mg := ⟨MOST_TICKS, MOST_MISFIRES, ⟨A_SureRoutes, SureRoutes.C, SureRoutes.c, SureRoutes.na⟩, ⟨A_AwayRoutes, AwayRoutes.C, AwayRoutes.c, AwayRoutes.na⟩, SureRoutes_init, SureRoutes_is_sure, SureRoutes_most_misfires, SureRoutes_chosen_burn, SureRoutes_is_sure_by, AwayRoutes_init, AwayRoutes_is_away, AwayRoutes_chosen_burn, AwayRoutes_is_away_by, has_state, sure_levels, next_sure_level, away_levels, next_away_level, there_places, moves_by_speed, speeds_behind, number_behind, before_drift, places_by_burns⟩
theorem kt_NO_BURN {K : PySem.W.Frag} {f1 : Addr} {k2 k3 : Tok} {n4 : Nat} {o5 : Option Addr} {s6 : Array (Option Value)} (h0 : K.lookup f1 = some ⟨.type "tuple", o5, .seq #[.int (0) k2, .int (0) k3] n4, s6⟩) : KC K (.ref f1) (.tup [(.int (0)), (.int (0))]) := (kc_of (xs := [.int (0), .int (0)]) h0 (by show 2 ≤ sizeLine; decide) (.cons ⟨_, rfl⟩ (.cons ⟨_, rfl⟩ .nil)) (.cons (.int _) (.cons (.int _) .nil)))
def tx_craft {K : PySem.W.Frag} {mg : Str → Option Value} (NO_BURN : TupG K mg "NO_BURN" (.tup [(.int (0)), (.int (0))])) (IDLE : IntG mg "IDLE" (0)) (COMING : IntG mg "COMING" (1)) (GOING : IntG mg "GOING" (2)) (HELPLESS : IntG mg "HELPLESS" (3)) (NOT_HERE : IntG mg "NOT_HERE" (4)) (THERE : IntG mg "THERE" (5)) {A_Craft : Addr} (Craft : ClsF K mg "Craft" ["chart", "mode", "last_order", "tick_count", "drifts", "sure_routes", "away_routes", "expected", "misfires"] A_Craft) (Craft_init : DefI K A_Craft "Craft.__init__" (inClass (top 83) 0) ["self"]) (Craft_begin : DefM K A_Craft "begin" "Craft.begin" (inClass (top 83) 1) ["self", "chart"]) (Craft_expect_nothing : DefM K A_Craft "expect_nothing" "Craft.expect_nothing" (inClass (top 83) 2) ["self"]) (Craft_start : DefM K A_Craft "start" "Craft.start" (inClass (top 83) 3) ["self", "numbers", "row"]) (Craft_tick : DefM K A_Craft "tick" "Craft.tick" (inClass (top 83) 4) ["self", "state"]) (Craft_decide : DefM K A_Craft "decide" "Craft.decide" (inClass (top 83) 5) ["self", "state"]) (Craft_come_alongside : DefM K A_Craft "come_alongside" "Craft.come_alongside" (inClass (top 83) 6) ["self", "state"]) (Craft_misfires_at : DefM K A_Craft "misfires_at" "Craft.misfires_at" (inClass (top 83) 7) ["self", "state"]) (Craft_go_away : DefM K A_Craft "go_away" "Craft.go_away" (inClass (top 83) 8) ["self", "state"]) (Craft_find_sure_routes : DefM K A_Craft "find_sure_routes" "Craft.find_sure_routes" (inClass (top 83) 9) ["self"]) (Craft_find_away_routes : DefM K A_Craft "find_away_routes" "Craft.find_away_routes" (inClass (top 83) 10) ["self"]) (Craft_find_drifts : DefM K A_Craft "find_drifts" "Craft.find_drifts" (inClass (top 83) 11) ["self"]) (Craft_heard : DefM K A_Craft "heard" "Craft.heard" (inClass (top 83) 12) ["self", "m"]) (Craft_told_state : DefM K A_Craft "told_state" "Craft.told_state" (inClass (top 83) 13) ["self"]) : Tx_craft K mg := ⟨NO_BURN, IDLE, COMING, GOING, HELPLESS, NOT_HERE, THERE, ⟨A_Craft, Craft.C, Craft.c, Craft.na⟩, Craft_init, Craft_begin, Craft_expect_nothing, Craft_start, Craft_tick, Craft_decide, Craft_come_alongside, Craft_misfires_at, Craft_go_away, Craft_find_sure_routes, Craft_find_away_routes, Craft_find_drifts, Craft_heard, Craft_told_state⟩
def tx_people {K : PySem.W.Frag} {mg : Str → Option Value} (MOST_ORDERS : IntG mg "MOST_ORDERS" (65535)) (TICKS_BETWEEN : IntG mg "TICKS_BETWEEN" (5)) {A_PeoplesEnd : Addr} (PeoplesEnd : ClsF K mg "PeoplesEnd" ["order_number", "order_what", "order_answered", "report_number", "report_what", "report_state", "tick_count"] A_PeoplesEnd) (PeoplesEnd_init : DefI K A_PeoplesEnd "PeoplesEnd.__init__" (inClass (top 87) 0) ["self"]) (PeoplesEnd_begin : DefM K A_PeoplesEnd "begin" "PeoplesEnd.begin" (inClass (top 87) 1) ["self"]) (PeoplesEnd_start : DefM K A_PeoplesEnd "start" "PeoplesEnd.start" (inClass (top 87) 2) ["self"]) (PeoplesEnd_order : DefM K A_PeoplesEnd "order" "PeoplesEnd.order" (inClass (top 87) 3) ["self", "what"]) (PeoplesEnd_sent_order : DefM K A_PeoplesEnd "sent_order" "PeoplesEnd.sent_order" (inClass (top 87) 4) ["self"]) (PeoplesEnd_heard : DefM K A_PeoplesEnd "heard" "PeoplesEnd.heard" (inClass (top 87) 5) ["self", "m"]) (PeoplesEnd_hear_answer : DefM K A_PeoplesEnd "hear_answer" "PeoplesEnd.hear_answer" (inClass (top 87) 6) ["self", "m"]) (PeoplesEnd_hear_report : DefM K A_PeoplesEnd "hear_report" "PeoplesEnd.hear_report" (inClass (top 87) 7) ["self", "m"]) (PeoplesEnd_tick : DefM K A_PeoplesEnd "tick" "PeoplesEnd.tick" (inClass (top 87) 8) ["self"]) (PeoplesEnd_awaits_answer : DefM K A_PeoplesEnd "awaits_answer" "PeoplesEnd.awaits_answer" (inClass (top 87) 9) ["self"]) (PeoplesEnd_told_state : DefM K A_PeoplesEnd "told_state" "PeoplesEnd.told_state" (inClass (top 87) 10) ["self"]) : Tx_people K mg := ⟨MOST_ORDERS, TICKS_BETWEEN, ⟨A_PeoplesEnd, PeoplesEnd.C, PeoplesEnd.c, PeoplesEnd.na⟩, PeoplesEnd_init, PeoplesEnd_begin, PeoplesEnd_start, PeoplesEnd_order, PeoplesEnd_sent_order, PeoplesEnd_heard, PeoplesEnd_hear_answer, PeoplesEnd_hear_report, PeoplesEnd_tick, PeoplesEnd_awaits_answer, PeoplesEnd_told_state⟩
theorem kt_NUMBERS_OF {K : PySem.W.Frag} {f1 : Addr} {k2 k3 k4 k5 k6 k7 k8 k9 k10 : Tok} {n11 : Nat} {o12 : Option Addr} {s13 : Array (Option Value)} (h0 : K.lookup f1 = some ⟨.type "tuple", o12, .seq #[.int (7) k2, .int (4) k3, .int (0) k4, .int (0) k5, .int (0) k6, .int (1) k7, .int (0) k8, .int (0) k9, .int (0) k10] n11, s13⟩) : KC K (.ref f1) (.tup [(.int (7)), (.int (4)), (.int (0)), (.int (0)), (.int (0)), (.int (1)), (.int (0)), (.int (0)), (.int (0))]) := (kc_of (xs := [.int (7), .int (4), .int (0), .int (0), .int (0), .int (1), .int (0), .int (0), .int (0)]) h0 (by show 9 ≤ sizeLine; decide) (.cons ⟨_, rfl⟩ (.cons ⟨_, rfl⟩ (.cons ⟨_, rfl⟩ (.cons ⟨_, rfl⟩ (.cons ⟨_, rfl⟩ (.cons ⟨_, rfl⟩ (.cons ⟨_, rfl⟩ (.cons ⟨_, rfl⟩ (.cons ⟨_, rfl⟩ .nil))))))))) (.cons (.int _) (.cons (.int _) (.cons (.int _) (.cons (.int _) (.cons (.int _) (.cons (.int _) (.cons (.int _) (.cons (.int _) (.cons (.int _) .nil))))))))))
theorem kt_HAS_ROW {K : PySem.W.Frag} {f1 : Addr} {n2 : Nat} {o3 : Option Addr} {s4 : Array (Option Value)} (h0 : K.lookup f1 = some ⟨.type "tuple", o3, .seq #[.bool true, .bool false, .bool true, .bool false, .bool false, .bool false, .bool true, .bool false, .bool false] n2, s4⟩) : KC K (.ref f1) (.tup [(.bl true), (.bl false), (.bl true), (.bl false), (.bl false), (.bl false), (.bl true), (.bl false), (.bl false)]) := (kc_of (xs := [.bl true, .bl false, .bl true, .bl false, .bl false, .bl false, .bl true, .bl false, .bl false]) h0 (by show 9 ≤ sizeLine; decide) (.cons rfl (.cons rfl (.cons rfl (.cons rfl (.cons rfl (.cons rfl (.cons rfl (.cons rfl (.cons rfl .nil))))))))) (.cons (.bl true) (.cons (.bl false) (.cons (.bl true) (.cons (.bl false) (.cons (.bl false) (.cons (.bl false) (.cons (.bl true) (.cons (.bl false) (.cons (.bl false) .nil))))))))))
end SPx
namespace SPx
open PySem PySem.W PyProof.Rows
set_option maxRecDepth 100000 in
set_option maxHeartbeats 0 in
theorem topTxt (w : World) (mg : Str → Option Value) (h : Heap) (KX : (heapK w.params).In h) (G : h.Ns mainGlobals mg) : Nonempty (Txt (heapK w.params) mg) := by
 suffices q : rW = rW → Nonempty (Txt (heapK w.params) mg) from q rfl
 k_fillS
 intro _
 refine ⟨?T⟩
 refine' ⟨PySem.W.mg_none_of KX G ?_,
   PySem.W.mg_none_of KX G ?_,
   PySem.W.mg_none_of KX G ?_,
   PySem.W.mg_none_of KX G ?_,
   PySem.W.mg_none_of KX G ?_,
   PySem.W.mg_none_of KX G ?_,
   PySem.W.mg_none_of KX G ?_,
   PySem.W.mg_none_of KX G ?_,
   (⟨(intG_of KX G ?_), (intG_of KX G ?_), (tupG_of KX G ?_ (kt_BURNS ?_ ?_ ?_ ?_ ?_ ?_ ?_ ?_ ?_ ?_)), (defG_of KX G b2 ?_ ?_ ?_ ?_), (defG_of KX G b2 ?_ ?_ ?_ ?_), (defG_of KX G b1 ?_ ?_ ?_ ?_), (defG_of KX G b2 ?_ ?_ ?_ ?_), (defG_of KX G b1 ?_ ?_ ?_ ?_), (defG_of KX G b2 ?_ ?_ ?_ ?_), (defG_of KX G b2 ?_ ?_ ?_ ?_)⟩),
   (tx_places (clsF_of KX G ?_ ?_ ?_ ?_ ?_ (na_cons ?_ (na_cons ?_ (na_cons ?_ (na_cons ?_ na_nil))))) (defI_of b3 ?_ ?_ ?_ ?_ ?_ ?_ ?_) (defM_of b3 ?_ ?_ ?_ ?_ ?_) (defM_of b3 ?_ ?_ ?_ ?_ ?_) (defM_of b5 ?_ ?_ ?_ ?_ ?_) (defM_of b4 ?_ ?_ ?_ ?_ ?_)),
   (tx_chart (tupG_of KX G ?_ (kt_WAYS ?_ ?_ ?_ ?_ ?_)) (intG_of KX G ?_) (intG_of KX G ?_) (clsF_of KX G ?_ ?_ ?_ ?_ ?_ (na_cons ?_ (na_cons ?_ (na_cons ?_ (na_cons ?_ na_nil))))) (defI_of b3 ?_ ?_ ?_ ?_ ?_ ?_ ?_) (defM_of b2 ?_ ?_ ?_ ?_ ?_) (defM_of b2 ?_ ?_ ?_ ?_ ?_) (defG_of KX G b1 ?_ ?_ ?_ ?_) (defG_of KX G b2 ?_ ?_ ?_ ?_) (defG_of KX G b3 ?_ ?_ ?_ ?_) (defG_of KX G b2 ?_ ?_ ?_ ?_) (defG_of KX G b3 ?_ ?_ ?_ ?_)),
   (tx_drift (clsF_of KX G ?_ ?_ ?_ ?_ ?_ (na_cons ?_ (na_cons ?_ na_nil))) (defI_of b2 ?_ ?_ ?_ ?_ ?_ ?_ ?_) (defM_of b2 ?_ ?_ ?_ ?_ ?_) (defM_of b3 ?_ ?_ ?_ ?_ ?_) (defG_of KX G b2 ?_ ?_ ?_ ?_) (defG_of KX G b2 ?_ ?_ ?_ ?_) (defG_of KX G b3 ?_ ?_ ?_ ?_) (defG_of KX G b2 ?_ ?_ ?_ ?_)),
   (⟨(intG_of KX G ?_), (intG_of KX G ?_), (intG_of KX G ?_), (intG_of KX G ?_), (intG_of KX G ?_), (intG_of KX G ?_), (intG_of KX G ?_), (intG_of KX G ?_), (intG_of KX G ?_), (intG_of KX G ?_), (intG_of KX G ?_), (defG_of KX G b1 ?_ ?_ ?_ ?_), (defG_of KX G b1 ?_ ?_ ?_ ?_), (defG_of KX G b1 ?_ ?_ ?_ ?_), (defG_of KX G b2 ?_ ?_ ?_ ?_), (defG_of KX G b1 ?_ ?_ ?_ ?_), (defG_of KX G b1 ?_ ?_ ?_ ?_), (defG_of KX G b1 ?_ ?_ ?_ ?_), (defG_of KX G b1 ?_ ?_ ?_ ?_), (defG_of KX G b1 ?_ ?_ ?_ ?_), (defG_of KX G b1 ?_ ?_ ?_ ?_), (defG_of KX G b2 ?_ ?_ ?_ ?_), (defG_of KX G b2 ?_ ?_ ?_ ?_), (defG_of KX G b3 ?_ ?_ ?_ ?_), (defG_of KX G b3 ?_ ?_ ?_ ?_), (defG_of KX G b2 ?_ ?_ ?_ ?_), (defG_of KX G b2 ?_ ?_ ?_ ?_), (defG_of KX G b1 ?_ ?_ ?_ ?_), (defG_of KX G b1 ?_ ?_ ?_ ?_)⟩),
   (tx_routes (intG_of KX G ?_) (intG_of KX G ?_) (clsF_of KX G ?_ ?_ ?_ ?_ ?_ (na_cons ?_ (na_cons ?_ (na_cons ?_ na_nil)))) (clsF_of KX G ?_ ?_ ?_ ?_ ?_ (na_cons ?_ (na_cons ?_ (na_cons ?_ na_nil)))) (defI_of b3 ?_ ?_ ?_ ?_ ?_ ?_ ?_) (defM_of b4 ?_ ?_ ?_ ?_ ?_) (defM_of b2 ?_ ?_ ?_ ?_ ?_) (defM_of b3 ?_ ?_ ?_ ?_ ?_) (defM_of b5 ?_ ?_ ?_ ?_ ?_) (defI_of b3 ?_ ?_ ?_ ?_ ?_ ?_ ?_) (defM_of b3 ?_ ?_ ?_ ?_ ?_) (defM_of b2 ?_ ?_ ?_ ?_ ?_) (defM_of b4 ?_ ?_ ?_ ?_ ?_) (defG_of KX G b3 ?_ ?_ ?_ ?_) (defG_of KX G b2 ?_ ?_ ?_ ?_) (defG_of KX G b5 ?_ ?_ ?_ ?_) (defG_of KX G b2 ?_ ?_ ?_ ?_) (defG_of KX G b5 ?_ ?_ ?_ ?_) (defG_of KX G b1 ?_ ?_ ?_ ?_) (defG_of KX G b0 ?_ ?_ ?_ ?_) (defG_of KX G b2 ?_ ?_ ?_ ?_) (defG_of KX G b2 ?_ ?_ ?_ ?_) (defG_of KX G b3 ?_ ?_ ?_ ?_) (defG_of KX G b3 ?_ ?_ ?_ ?_)),
   (tx_craft (tupG_of KX G ?_ (kt_NO_BURN ?_)) (intG_of KX G ?_) (intG_of KX G ?_) (intG_of KX G ?_) (intG_of KX G ?_) (intG_of KX G ?_) (intG_of KX G ?_) (clsF_of KX G ?_ ?_ ?_ ?_ ?_ (na_cons ?_ (na_cons ?_ (na_cons ?_ (na_cons ?_ (na_cons ?_ (na_cons ?_ (na_cons ?_ (na_cons ?_ (na_cons ?_ na_nil)))))))))) (defI_of b1 ?_ ?_ ?_ ?_ ?_ ?_ ?_) (defM_of b2 ?_ ?_ ?_ ?_ ?_) (defM_of b1 ?_ ?_ ?_ ?_ ?_) (defM_of b3 ?_ ?_ ?_ ?_ ?_) (defM_of b2 ?_ ?_ ?_ ?_ ?_) (defM_of b2 ?_ ?_ ?_ ?_ ?_) (defM_of b2 ?_ ?_ ?_ ?_ ?_) (defM_of b2 ?_ ?_ ?_ ?_ ?_) (defM_of b2 ?_ ?_ ?_ ?_ ?_) (defM_of b1 ?_ ?_ ?_ ?_ ?_) (defM_of b1 ?_ ?_ ?_ ?_ ?_) (defM_of b1 ?_ ?_ ?_ ?_ ?_) (defM_of b2 ?_ ?_ ?_ ?_ ?_) (defM_of b1 ?_ ?_ ?_ ?_ ?_)),
   (tx_people (intG_of KX G ?_) (intG_of KX G ?_) (clsF_of KX G ?_ ?_ ?_ ?_ ?_ (na_cons ?_ (na_cons ?_ (na_cons ?_ (na_cons ?_ (na_cons ?_ (na_cons ?_ (na_cons ?_ na_nil)))))))) (defI_of b1 ?_ ?_ ?_ ?_ ?_ ?_ ?_) (defM_of b1 ?_ ?_ ?_ ?_ ?_) (defM_of b1 ?_ ?_ ?_ ?_ ?_) (defM_of b2 ?_ ?_ ?_ ?_ ?_) (defM_of b1 ?_ ?_ ?_ ?_ ?_) (defM_of b2 ?_ ?_ ?_ ?_ ?_) (defM_of b2 ?_ ?_ ?_ ?_ ?_) (defM_of b2 ?_ ?_ ?_ ?_ ?_) (defM_of b1 ?_ ?_ ?_ ?_ ?_) (defM_of b1 ?_ ?_ ?_ ?_ ?_) (defM_of b1 ?_ ?_ ?_ ?_ ?_)),
   (⟨(intG_of KX G ?_), (intG_of KX G ?_), (intG_of KX G ?_), (intG_of KX G ?_), (intG_of KX G ?_), (intG_of KX G ?_), (intG_of KX G ?_), (tupG_of KX G ?_ (kt_NUMBERS_OF ?_)), (tupG_of KX G ?_ (kt_HAS_ROW ?_)), (defG_of KX G b1 ?_ ?_ ?_ ?_), (defG_of KX G b5 ?_ ?_ ?_ ?_), (defG_of KX G b4 ?_ ?_ ?_ ?_), (defG_of KX G b4 ?_ ?_ ?_ ?_)⟩)⟩
 any_goals k_is
end SPx
namespace L2
open PySem PySem.Spec PyProof.Rows
open PySem.W (WData Codec OpenSpec Well WellAll ReadsW ReadsAllW)
mutual
inductive Dw (K : PySem.W.Frag) (H : Hp) : V → WData → Prop
 | non : Dw K H .non .none
 | bl (b : Bool) : Dw K H (.bl b) (.bool b)
 | int (i : Int) : Dw K H (.int i) (.int i)
 | str (x : Str) : Dw K H (.str x) (.str x)
 | byt (b : Array UInt8) : Dw K H (.byt b) (.bytes b.toList)
 | lst {a : Addr} {xs : List V} {ds : List WData} : SqL K H a xs → DwAll K H xs ds → Dw K H (.ref a) (.list ds)
 | tup {a : Addr} {xs : List V} {ds : List WData} : SqT K H a xs → DwAll K H xs ds → Dw K H (.ref a) (.tuple ds)
inductive DwAll (K : PySem.W.Frag) (H : Hp) : List V → List WData → Prop
 | nil : DwAll K H [] []
 | cons {v : V} {vs : List V} {d : WData} {ds : List WData} : Dw K H v d → DwAll K H vs ds → DwAll K H (v :: vs) (d :: ds)
end
theorem dw_ints {K : PySem.W.Frag} {H : Hp} : ∀ ns : List Int, DwAll K H (ns.map V.int) (ns.map WData.int)
 | [] => .nil
 | n :: r => .cons (.int n) (dw_ints r)
theorem ints_dw {K : PySem.W.Frag} {H : Hp} : ∀ (ns : List Int) (xs : List V), DwAll K H xs (ns.map WData.int) → xs = ns.map V.int
 | [], xs, h => by
   cases h
   rfl
 | n :: r, xs, h => by
   cases h with
   | cons h1 h2 =>
     cases h1
     rw [ints_dw r _ h2] <;> rfl
section
variable {P : Program} {w : World} {K : PySem.W.Frag} {H : Hp} {h : Heap} {R : PySem.W.WRecords} {cl : Str → Option Addr}
theorem sqL_at {a : Addr} {xs : List V} (hok : HOk P w H h) (KX : K.In h) (q : SqL K H a xs) : ∃ (its : List Value) (o : Obj) (n : Nat), Vals xs its ∧ h.get? a = some o ∧ o.cls = .type "list" ∧ o.data = .seq its.toArray n := by
 rcases q with q | ⟨o, its, n, e, hc, _, hd, _, hv⟩
 · obtain ⟨_, its, n, hv, e⟩ := (show ObjOk P w H h a (.lst xs) from q.ok hok)
   exact ⟨its, _, n, hv, e, rfl, rfl⟩
 · exact ⟨its.toList, o, n, hv, KX _ _ e, hc, by simp [hd]⟩
theorem sqT_at {a : Addr} {xs : List V} (hok : HOk P w H h) (KX : K.In h) (q : SqT K H a xs) : ∃ (its : List Value) (o : Obj) (n : Nat), Vals xs its ∧ h.get? a = some o ∧ o.cls = .type "tuple" ∧ o.data = .seq its.toArray n := by
 rcases q with q | ⟨o, its, n, e, hc, hd, _, hv⟩
 · obtain ⟨_, its, hv, o, e, hc, n, hd⟩ := (show ObjOk P w H h a (.tup xs) from q.ok hok)
   exact ⟨its, o, n, hv, e, hc, hd⟩
 · exact ⟨its.toList, o, n, hv, KX _ _ e, hc, by simp [hd]⟩
mutual
theorem Dw.reads (hok : HOk P w H h) (KX : K.In h) : ∀ (d : WData) (v : V) (u : Value), Dw K H v d → RelV v u → ∃ as, ReadsW R cl h u d as
 | .none, _, _, x, r => by
   cases x
   cases r
   exact ⟨_, ReadsW.none⟩
 | .bool b, _, _, x, r => by
   cases x
   cases r
   exact ⟨_, ReadsW.bool b⟩
 | .int i, _, _, x, r => by
   cases x
   obtain ⟨t, rfl⟩ := r
   exact ⟨_, ReadsW.int i t⟩
 | .str s, _, _, x, r => by
   cases x
   obtain ⟨t, rfl⟩ := r
   exact ⟨_, ReadsW.str s t⟩
 | .bytes b, _, _, x, r => by
   cases x
   obtain ⟨t, rfl⟩ := r
   exact ⟨_, ReadsW.bytes _ t⟩
 | .list ds, _, _, x, r => by
   cases x with
   | lst hs ha =>
     cases r
     obtain ⟨its, o, n, rv, ho, hc, hd⟩ := sqL_at hok KX hs
     obtain ⟨as, hr⟩ := Dw.readsAll hok KX ds _ its ha rv
     exact ⟨_, ReadsW.list ho hc hd hr⟩
 | .tuple ds, _, _, x, r => by
   cases x with
   | tup hs ha =>
     cases r
     obtain ⟨its, o, n, rv, ho, hc, hd⟩ := sqT_at hok KX hs
     obtain ⟨as, hr⟩ := Dw.readsAll hok KX ds _ its ha rv
     exact ⟨_, ReadsW.tuple ho hc hd hr⟩
 | .float _, _, _, x, _ => by cases x
 | .dict _, _, _, x, _ => by cases x
 | .bytearray _, _, _, x, _ => by cases x
 | .set _, _, _, x, _ => by cases x
 | .frozenset _, _, _, x, _ => by cases x
 | .obj _ _, _, _, x, _ => by cases x
theorem Dw.readsAll (hok : HOk P w H h) (KX : K.In h) : ∀ (ds : List WData) (vs : List V) (us : List Value), DwAll K H vs ds → Vals vs us → ∃ as, ReadsAllW R cl h us ds as
 | [], _, _, x, r => by
   cases x
   cases r
   exact ⟨_, ReadsAllW.nil⟩
 | d :: ds, _, _, x, r => by
   cases x with
   | cons h1 h2 =>
     cases r with
     | cons r1 r2 =>
       obtain ⟨as, q1⟩ := Dw.reads hok KX d _ _ h1 r1
       obtain ⟨bs, q2⟩ := Dw.readsAll hok KX ds _ _ h2 r2
       exact ⟨_, ReadsAllW.cons q1 q2⟩
end
end
mutual
def plW : WData → Bool
 | .none => true
 | .bool _ => true
 | .int _ => true
 | .str _ => true
 | .bytes _ => true
 | .list xs => plWs xs
 | .tuple xs => plWs xs
 | _ => false
def plWs : List WData → Bool
 | [] => true
 | x :: r => plW x && plWs r
end
theorem plWs_map {α : Type} {f : α → WData} (h : ∀ a, plW (f a) = true) : ∀ l : List α, plWs (l.map f) = true
 | [] => rfl
 | x :: r => by
   show (plW (f x) && plWs (r.map f)) = true
   rw [h x, plWs_map h r] <;> rfl
theorem pl_enc : ∀ (c : Codec) (a : c.denote), plW (c.enc a) = true
 | .unit, _ => rfl
 | .bool, _ => rfl
 | .int _ _, _ => rfl
 | .nat _ _, _ => rfl
 | .u8, _ => rfl
 | .bytes _ _, _ => rfl
 | .text _ _ _ _, _ => rfl
 | .list _ _ c, a => plWs_map (fun x => pl_enc c x) a
 | .pair c d, a => by
   show (plW (c.enc a.1) && (plW (d.enc a.2) && true)) = true
   rw [pl_enc c a.1, pl_enc d a.2] <;> rfl
 | .triple c d e, a => by
   show (plW (c.enc a.1) && (plW (d.enc a.2.1) && (plW (e.enc a.2.2) && true))) = true
   rw [pl_enc c a.1, pl_enc d a.2.1, pl_enc e a.2.2] <;> rfl
 | .option c, none => rfl
 | .option c, some x => pl_enc c x
theorem pl_encAll : ∀ (cs : List Codec) (a : Codec.denoteAll cs), plWs (Codec.encAll cs a) = true
 | [], _ => rfl
 | c :: cs, a => by
   show (plW (c.enc a.1) && plWs (Codec.encAll cs a.2)) = true
   rw [pl_enc c a.1, pl_encAll cs a.2] <;> rfl
theorem weight_mem : ∀ {xs : List WData} {d : WData}, d ∈ xs → d.weight ≤ WData.weightAll xs
 | [], d, h => absurd h (by simp)
 | x :: r, d, h => by
   show d.weight ≤ x.weight + 1 + WData.weightAll r
   rcases List.mem_cons.mp h with e | m
   · rw [e]
     omega
   · have z := weight_mem m
     omega
def toV : Value → V
 | .none => .non
 | .bool b => .bl b
 | .int i _ => .int i
 | .str x _ => .str x
 | .bytes b _ => .byt b
 | .ref a => .ref a
 | _ => .non
def OkU (A : List Addr) : Value → Prop
 | .none => True
 | .bool _ => True
 | .int _ _ => True
 | .str _ _ => True
 | .bytes _ _ => True
 | .ref a => a ∈ A
 | _ => False
theorem OkU.mono {A B : List Addr} (h : ∀ a ∈ A, a ∈ B) : ∀ {u : Value}, OkU A u → OkU B u := fun {u} x => by
 cases u with
 | ref a => exact h a x
 | none => trivial
 | bool b => trivial
 | int i t => trivial
 | str s t => trivial
 | bytes b t => trivial
 | _ => exact False.elim x
theorem relV_toV {A : List Addr} {u : Value} (x : OkU A u) : RelV (toV u) u := by
 cases u with
 | ref a => rfl
 | none => rfl
 | bool b => rfl
 | int i t => exact ⟨t, rfl⟩
 | str s t => exact ⟨t, rfl⟩
 | bytes b t => exact ⟨t, rfl⟩
 | _ => exact False.elim x
theorem vals_toV {A : List Addr} : ∀ {vs : List Value}, (∀ u ∈ vs, OkU A u) → Vals (vs.map toV) vs
 | [], _ => .nil
 | u :: r, h => .cons (relV_toV (h u (List.mem_cons_self ..))) (vals_toV fun x hx => h x (List.mem_cons_of_mem _ hx))
def ArgOb (h : Heap) (A : List Addr) (a : Addr) : Prop := ∃ vs : List Value, vs.length ≤ sizeLine ∧ (∀ u ∈ vs, OkU A u) ∧
 (h.get? a = some { cls := .type "list", data := .seq vs.toArray } ∨ h.get? a = some { cls := .type "tuple", data := .seq vs.toArray })
theorem ArgOb.mono {h : Heap} {A B : List Addr} {a : Addr} (k : ∀ a ∈ A, a ∈ B) (x : ArgOb h A a) : ArgOb h B a := by
 obtain ⟨vs, h1, h2, h3⟩ := x
 exact ⟨vs, h1, fun u hu => (h2 u hu).mono k, h3⟩
theorem wellAll_len {P : Params} {h : Heap} : ∀ {vs : List Value} {ds : List WData}, WellAll P h vs ds → vs.length = ds.length
 | _, _, .nil => rfl
 | _, _, .cons _ b => by
   show _ + 1 = _ + 1
   rw [wellAll_len b]
theorem well_list {P : Params} {h : Heap} {v : Value} {ds : List WData} (x : Well P h v (.list ds)) : ∃ (a : Addr) (vs : List Value), v = .ref a ∧ h.get? a = some { cls := .type "list", data := .seq vs.toArray } ∧ WellAll P h vs ds := by
 cases x with
 | list ho hall => exact ⟨_, _, rfl, ho, hall⟩
theorem well_tuple {P : Params} {h : Heap} {v : Value} {ds : List WData} (x : Well P h v (.tuple ds)) : ∃ (a : Addr) (vs : List Value), v = .ref a ∧ h.get? a = some { cls := .type "tuple", data := .seq vs.toArray } ∧ WellAll P h vs ds := by
 cases x with
 | tuple ho hall => exact ⟨_, _, rfl, ho, hall⟩
theorem well_cons {P : Params} {h : Heap} {us : List Value} {d : WData} {ds : List WData} (x : WellAll P h us (d :: ds)) : ∃ (v : Value) (vs : List Value), us = v :: vs ∧ Well P h v d ∧ WellAll P h vs ds := by
 cases x with
 | cons a b => exact ⟨_, _, rfl, a, b⟩
theorem line_of {n : Nat} (h : n ≤ 1048576) : n ≤ sizeLine := Nat.le_trans h (by decide)
section
variable {P : Params} {h : Heap}
mutual
theorem area_one : ∀ (d : WData) (v : Value), Well P h v d → plW d = true → d.weight ≤ 1048576 → ∃ A : List Addr, OkU A v ∧ ∀ a ∈ A, ArgOb h A a
 | .none, _, x, _, _ => by
   cases x
   exact ⟨[], trivial, fun a m => absurd m (by simp)⟩
 | .bool b, _, x, _, _ => by
   cases x
   exact ⟨[], trivial, fun a m => absurd m (by simp)⟩
 | .int i, _, x, _, _ => by
   cases x
   exact ⟨[], trivial, fun a m => absurd m (by simp)⟩
 | .str s, _, x, _, _ => by
   cases x
   exact ⟨[], trivial, fun a m => absurd m (by simp)⟩
 | .bytes b, _, x, _, _ => by
   cases x
   exact ⟨[], trivial, fun a m => absurd m (by simp)⟩
 | .list ds, _, x, p, z => by
   obtain ⟨a, vs, rfl, ho, hall⟩ := well_list x
   have z2 : WData.weightAll ds ≤ 1048576 := z
   obtain ⟨A, h1, h2⟩ := area_all ds _ hall p fun d hd => Nat.le_trans (weight_mem hd) z2
   have k : ∀ b ∈ A, b ∈ a :: A := fun b hb => List.mem_cons_of_mem _ hb
   refine ⟨a :: A, List.mem_cons_self .., fun b hb => ?_⟩
   rcases List.mem_cons.mp hb with e | m
   · rw [e]
     exact ⟨vs, line_of (by rw [wellAll_len hall]; exact Nat.le_trans (PySem.W.length_le_weightAllW ds) z2), fun u hu => (h1 u hu).mono k, .inl ho⟩
   · exact (h2 b m).mono k
 | .tuple ds, _, x, p, z => by
   obtain ⟨a, vs, rfl, ho, hall⟩ := well_tuple x
   have z2 : WData.weightAll ds ≤ 1048576 := z
   obtain ⟨A, h1, h2⟩ := area_all ds _ hall p fun d hd => Nat.le_trans (weight_mem hd) z2
   have k : ∀ b ∈ A, b ∈ a :: A := fun b hb => List.mem_cons_of_mem _ hb
   refine ⟨a :: A, List.mem_cons_self .., fun b hb => ?_⟩
   rcases List.mem_cons.mp hb with e | m
   · rw [e]
     exact ⟨vs, line_of (by rw [wellAll_len hall]; exact Nat.le_trans (PySem.W.length_le_weightAllW ds) z2), fun u hu => (h1 u hu).mono k, .inr ho⟩
   · exact (h2 b m).mono k
 | .float _, _, _, p, _ => Bool.noConfusion (show false = true from p)
 | .dict _, _, _, p, _ => Bool.noConfusion (show false = true from p)
 | .bytearray _, _, _, p, _ => Bool.noConfusion (show false = true from p)
 | .set _, _, _, p, _ => Bool.noConfusion (show false = true from p)
 | .frozenset _, _, _, p, _ => Bool.noConfusion (show false = true from p)
 | .obj _ _, _, _, p, _ => Bool.noConfusion (show false = true from p)
theorem area_all : ∀ (ds : List WData) (vs : List Value), WellAll P h vs ds → plWs ds = true → (∀ d ∈ ds, d.weight ≤ 1048576) → ∃ A : List Addr, (∀ u ∈ vs, OkU A u) ∧ ∀ a ∈ A, ArgOb h A a
 | [], _, x, _, _ => by
   cases x
   exact ⟨[], fun u m => absurd m (by simp), fun a m => absurd m (by simp)⟩
 | d :: ds, _, x, p, z => by
   obtain ⟨v, vs, rfl, x1, x2⟩ := well_cons x
   have q : plW d = true ∧ plWs ds = true := Bool.and_eq_true_iff.mp p
   obtain ⟨A, a1, a2⟩ := area_one d v x1 q.1 (z d (List.mem_cons_self ..))
   obtain ⟨B, b1, b2⟩ := area_all ds vs x2 q.2 fun e he => z e (List.mem_cons_of_mem _ he)
   have kA : ∀ b ∈ A, b ∈ A ++ B := fun b hb => List.mem_append.mpr (.inl hb)
   have kB : ∀ b ∈ B, b ∈ A ++ B := fun b hb => List.mem_append.mpr (.inr hb)
   refine ⟨A ++ B, fun u hu => ?_, fun b hb => ?_⟩
   · rcases List.mem_cons.mp hu with e | m
     · rw [e]
       exact a1.mono kA
     · exact (b1 u m).mono kB
   · rcases List.mem_append.mp hb with m | m
     · exact (a2 b m).mono kA
     · exact (b2 b m).mono kB
end
end
def hoOf (o : Obj) : Option HO := match o.data with
 | .seq vs _ => if (o.cls == Value.type "list") = true then some (.frz o (.lst (vs.toList.map toV))) else some (.frz o (.tup (vs.toList.map toV)))
 | _ => none
def argH (K : PySem.W.Frag) (h : Heap) (A : List Addr) : Hp := fun b => if b ∈ A then (if (K.lookup b).isNone = true then (h.get? b).bind hoOf else none) else none
def OnlyF (H : Hp) : Prop := ∀ b, H b = none ∨ ∃ o u, H b = some (.frz o u)
theorem hoOf_lst (vs : List Value) : hoOf { cls := .type "list", data := .seq vs.toArray } = some (.frz { cls := .type "list", data := .seq vs.toArray } (.lst (vs.map toV))) := by
 show (if (Value.type "list" == Value.type "list") = true then some (HO.frz { cls := .type "list", data := .seq vs.toArray } (.lst (vs.toArray.toList.map toV))) else some (HO.frz { cls := .type "list", data := .seq vs.toArray } (.tup (vs.toArray.toList.map toV)))) = _
 rw [if_pos (beq_self_eq_true _)]
theorem hoOf_tup (vs : List Value) : hoOf { cls := .type "tuple", data := .seq vs.toArray } = some (.frz { cls := .type "tuple", data := .seq vs.toArray } (.tup (vs.map toV))) := by
 show (if (Value.type "tuple" == Value.type "list") = true then some (HO.frz { cls := .type "tuple", data := .seq vs.toArray } (.lst (vs.toArray.toList.map toV))) else some (HO.frz { cls := .type "tuple", data := .seq vs.toArray } (.tup (vs.toArray.toList.map toV)))) = _
 rw [if_neg (by decide)]
section
variable {P : Program} {w : World} {K : PySem.W.Frag} {h : Heap} {A : List Addr}
theorem argH_at {b : Addr} {o : Obj} (hb : b ∈ A) (hk : K.lookup b = none) (e : h.get? b = some o) : argH K h A b = hoOf o := by
 unfold argH
 rw [if_pos hb, hk, if_pos (show (none : Option Obj).isNone = true from rfl), e] <;> rfl
theorem of_argH {b : Addr} {u : HO} (q : argH K h A b = some u) : b ∈ A ∧ K.lookup b = none := by
 unfold argH at q
 by_cases hb : b ∈ A
 · rw [if_pos hb] at q
   cases hk : K.lookup b with
   | none => exact ⟨hb, rfl⟩
   | some o =>
     rw [hk, if_neg (by simp)] at q
     cases q
 · rw [if_neg hb] at q
   cases q
theorem argH_is (ar : ∀ a ∈ A, ArgOb h A a) {b : Addr} {u : HO} (q : argH K h A b = some u) : K.lookup b = none ∧ ∃ vs : List Value, vs.length ≤ sizeLine ∧ (∀ u ∈ vs, OkU A u) ∧
   ((h.get? b = some { cls := .type "list", data := .seq vs.toArray } ∧ u = .frz { cls := .type "list", data := .seq vs.toArray } (.lst (vs.map toV))) ∨
    (h.get? b = some { cls := .type "tuple", data := .seq vs.toArray } ∧ u = .frz { cls := .type "tuple", data := .seq vs.toArray } (.tup (vs.map toV)))) := by
 obtain ⟨hb, hk⟩ := of_argH q
 obtain ⟨vs, h1, h2, h3⟩ := ar b hb
 refine ⟨hk, vs, h1, h2, ?_⟩
 rcases h3 with e | e
 · rw [argH_at hb hk e, hoOf_lst] at q
   exact .inl ⟨e, (Option.some.inj q).symm⟩
 · rw [argH_at hb hk e, hoOf_tup] at q
   exact .inr ⟨e, (Option.some.inj q).symm⟩
theorem argH_only (ar : ∀ a ∈ A, ArgOb h A a) : OnlyF (argH K h A) := fun b => by
 cases q : argH K h A b with
 | none => exact .inl rfl
 | some u =>
   obtain ⟨_, vs, _, _, ⟨_, e⟩ | ⟨_, e⟩⟩ := argH_is ar q
   · exact .inr ⟨_, _, by rw [e]⟩
   · exact .inr ⟨_, _, by rw [e]⟩
theorem argH_ok (ar : ∀ a ∈ A, ArgOb h A a) : HOk P w (argH K h A) h := fun b u q => by
 obtain ⟨_, vs, h1, h2, ⟨e, rfl⟩ | ⟨e, rfl⟩⟩ := argH_is ar q
 · exact ⟨e, by rw [List.length_map]; exact h1, vs, _, vals_toV h2, e⟩
 · exact ⟨e, by rw [List.length_map]; exact h1, vs, vals_toV h2, _, e, rfl, _, rfl⟩
theorem seq_inj {c c' : Value} {vs us : List Value} (e : (some { cls := c, data := .seq vs.toArray } : Option Obj) = some { cls := c', data := .seq us.toArray }) : c = c' ∧ vs = us := by
 have e1 := Option.some.inj e
 have e2 : c = c' := congrArg Obj.cls e1
 have e3 : Data.seq vs.toArray = Data.seq us.toArray := congrArg Obj.data e1
 injection e3 with e4
 refine ⟨e2, ?_⟩
 have e5 := congrArg Array.toList e4
 simpa using e5
theorem argL (KX : K.In h) (ar : ∀ a ∈ A, ArgOb h A a) {a : Addr} {vs : List Value} (ha : a ∈ A) (e : h.get? a = some { cls := .type "list", data := .seq vs.toArray }) : (∀ u ∈ vs, OkU A u) ∧ SqL K (argH K h A) a (vs.map toV) := by
 obtain ⟨us, h1, h2, h3⟩ := ar a ha
 have hu : us = vs := by
   rcases h3 with q | q
   · rw [e] at q
     exact (seq_inj q).2.symm
   · rw [e] at q
     exact absurd (Value.type.inj (seq_inj q).1) (by decide)
 subst hu
 refine ⟨h2, ?_⟩
 cases hk : K.lookup a with
 | none => exact .inl (.inr ⟨_, by rw [argH_at ha hk e, hoOf_lst]⟩)
 | some o =>
   have e2 := KX a o hk
   rw [e] at e2
   obtain rfl := Option.some.inj e2
   exact .inr ⟨_, us.toArray, _, hk, rfl, rfl, rfl, by rw [List.size_toArray]; exact h1, by simpa using vals_toV h2⟩
theorem argT (KX : K.In h) (ar : ∀ a ∈ A, ArgOb h A a) {a : Addr} {vs : List Value} (ha : a ∈ A) (e : h.get? a = some { cls := .type "tuple", data := .seq vs.toArray }) : (∀ u ∈ vs, OkU A u) ∧ SqT K (argH K h A) a (vs.map toV) := by
 obtain ⟨us, h1, h2, h3⟩ := ar a ha
 have hu : us = vs := by
   rcases h3 with q | q
   · rw [e] at q
     exact absurd (Value.type.inj (seq_inj q).1) (by decide)
   · rw [e] at q
     exact (seq_inj q).2.symm
 subst hu
 refine ⟨h2, ?_⟩
 cases hk : K.lookup a with
 | none => exact .inl (.inr ⟨_, by rw [argH_at ha hk e, hoOf_tup]⟩)
 | some o =>
   have e2 := KX a o hk
   rw [e] at e2
   obtain rfl := Option.some.inj e2
   exact .inr ⟨_, us.toArray, _, hk, rfl, rfl, by rw [List.size_toArray]; exact h1, by simpa using vals_toV h2⟩
mutual
theorem dw_one {Pm : Params} (KX : K.In h) (ar : ∀ a ∈ A, ArgOb h A a) : ∀ (d : WData) (v : Value), Well Pm h v d → plW d = true → OkU A v → Dw K (argH K h A) (toV v) d
 | .none, _, x, _, _ => by
   cases x
   exact .non
 | .bool b, _, x, _, _ => by
   cases x
   exact .bl b
 | .int i, _, x, _, _ => by
   cases x
   exact .int i
 | .str s, _, x, _, _ => by
   cases x
   exact .str s
 | .bytes b, _, x, _, _ => by
   cases x
   have z := Dw.byt (K := K) (H := argH K h A) b.toArray
   exact z
 | .list ds, _, x, p, hu => by
   obtain ⟨a, vs, rfl, ho, hall⟩ := well_list x
   obtain ⟨h2, hs⟩ := argL KX ar hu ho
   exact .lst hs (dw_all KX ar ds _ hall p h2)
 | .tuple ds, _, x, p, hu => by
   obtain ⟨a, vs, rfl, ho, hall⟩ := well_tuple x
   obtain ⟨h2, hs⟩ := argT KX ar hu ho
   exact .tup hs (dw_all KX ar ds _ hall p h2)
 | .float _, _, _, p, _ => Bool.noConfusion (show false = true from p)
 | .dict _, _, _, p, _ => Bool.noConfusion (show false = true from p)
 | .bytearray _, _, _, p, _ => Bool.noConfusion (show false = true from p)
 | .set _, _, _, p, _ => Bool.noConfusion (show false = true from p)
 | .frozenset _, _, _, p, _ => Bool.noConfusion (show false = true from p)
 | .obj _ _, _, _, p, _ => Bool.noConfusion (show false = true from p)
theorem dw_all {Pm : Params} (KX : K.In h) (ar : ∀ a ∈ A, ArgOb h A a) : ∀ (ds : List WData) (vs : List Value), WellAll Pm h vs ds → plWs ds = true → (∀ u ∈ vs, OkU A u) → DwAll K (argH K h A) (vs.map toV) ds
 | [], _, x, _, _ => by
   cases x
   exact .nil
 | d :: ds, _, x, p, hu => by
   obtain ⟨v, vs, rfl, x1, x2⟩ := well_cons x
   have q : plW d = true ∧ plWs ds = true := Bool.and_eq_true_iff.mp p
   exact .cons (dw_one KX ar d v x1 q.1 (hu _ (List.mem_cons_self ..))) (dw_all KX ar ds vs x2 q.2 fun u m => hu u (List.mem_cons_of_mem _ m))
end
end
theorem spec_call {P : Program} {w : World} {K : PySem.W.Frag} {mg mb : Str → Option Value} {CX : CXT} {k : Nat} {fa : Addr} {fd : FuncData} {ps : List Str} {sp : Sp} {s₁ : Shared} {vals : List Value} {ds : List WData} {R : PySem.W.WRecords} {cl : Str → Option Addr} {d0 : WData}
   (KX : K.In s₁.heap) (hns : s₁.heap.Ns mainGlobals mg) (hb : s₁.heap.Ns builtinsNs mb) (hbb : ∀ x : Str, x ≠ "__name__" → mb x = bootBuiltins x) (hlim : s₁.heap.NoLimit) (hg : s₁.gens = #[])
   (hwl : WellAll w.params s₁.heap vals ds) (hpl : plWs ds = true) (hwt : ∀ d ∈ ds, d.weight ≤ 1048576) (hr : Room k callerA)
   (F : ∀ base : Heap, K.In base → base.Ns mainGlobals mg → FnOk P w K mg base CX k fa fd ps sp) (hbind : ∀ (s : Shared) (us : List Value), us.length = ps.length → BindsTo s fd ⟨us, []⟩ (ps.zip us)) (hlen : ds.length = ps.length)
   (hsp : ∀ (H : Hp) (xs : List V), OnlyF H → DwAll K H xs ds → sp xs H (fun v H' => Dw K H' v d0) fun _ _ _ => False)
   (hCX : ∀ H e s', CX [] H s₁ (fun _ _ _ => False) e s' → False) :
   codeAny (model P w) callerA (.call (.ref fa) ⟨vals, []⟩) (fun r s' => ∃ u as, r = .ok (.ret u) ∧ ReadsW R cl s'.heap u d0 as ∧ OldK s₁.heap s'.heap ∧ s'.os = s₁.os ∧ AllBare s'.gens) s₁ := by
 obtain ⟨A, ho, ar⟩ := area_all ds vals hwl hpl hwt
 have hO : OnlyF (argH K s₁.heap A) := argH_only ar
 have hok : HOk P w (argH K s₁.heap A) s₁.heap := argH_ok ar
 have hS := dw_all KX ar ds vals hwl hpl ho
 have hV := vals_toV ho
 have hK : ∀ b u, argH K s₁.heap A b = some u → K.lookup b = none := fun b u q => (argH_is ar q).1
 have noA : ∀ {b : Addr} {o : Obj} {es : Array DictEntry} {ep : Nat}, s₁.heap.get? b = some o → o.data = .dict es ep → argH K s₁.heap A b = none := fun {b o es ep} e d => by
   cases q : argH K s₁.heap A b with
   | none => rfl
   | some u =>
     obtain ⟨_, vs, _, _, ⟨e2, _⟩ | ⟨e2, _⟩⟩ := argH_is ar q
     · rw [e2] at e
       cases e
       have d' : Data.seq vs.toArray _ = Data.dict es ep := d
       cases d'
     · rw [e2] at e
       cases e
       have d' : Data.seq vs.toArray _ = Data.dict es ep := d
       cases d'
 generalize argH K s₁.heap A = H at hO hok hS hK noA
 have base_of : ∀ {b : Addr} {o : Obj}, s₁.heap.get? b = some o → H b = none → (hidT s₁.heap H).get? b = some o := fun e n => hidT_get e n
 have nsK : ∀ {b : Addr} {m : Str → Option Value}, s₁.heap.Ns b m → (hidT s₁.heap H).Ns b m := fun {b m} ⟨o, es, ep, e, d, r⟩ => ⟨o, es, ep, base_of e (noA e d), d, r⟩
 have nK : ∀ b o, K.lookup b = some o → H b = none := fun b o e => by
   cases q : H b with
   | none => rfl
   | some u =>
     rw [hK b u q] at e
     cases e
 have hKb : K.In (hidT s₁.heap H) := fun b o e => base_of (KX b o e) (nK b o e)
 have hM : Mod K mg (hidT s₁.heap H) := ⟨hKb, nsK hns, ⟨mb, nsK hb, hbb⟩, let ⟨mc, h1, h2⟩ := hlim; ⟨mc, nsK h1, h2⟩⟩
 have e0 : Env0 P w K mg (hidT s₁.heap H) callerA [] s₁ H := ⟨rfl, hM, fun b o e => of_hidT e, Nat.le_of_eq (hidT_size _ _), trivial, fun b hb => absurd (show b ∈ ([] : List Addr) from hb) (by simp), hok, .of_eq hg⟩
 have hl : vals.length = ps.length := by rw [wellAll_len hwl]; exact hlen
 refine codeAny_mono ((F _ hKb (nsK hns)).run callerA [] s₁ H ⟨vals, []⟩ vals (vals.map toV) _ _ hr e0 (hbind s₁ vals hl) hV (hsp H _ hO hS)) fun r s' x => ?_
 cases r with
 | error e => exact (hCX H e s' x).elim
 | ok fl =>
   cases fl with
   | next => exact False.elim x
   | brk => exact False.elim x
   | cont => exact False.elim x
   | ret u =>
     obtain ⟨v, H', os, bare, un, hok', r', q⟩ := x
     have kept : ∀ b o, s₁.heap.get? b = some o → s'.heap.get? b = some o := fun b o e => by
       cases q2 : H b with
       | none => exact un.keep b o e q2 (by intro z; exact absurd (show b ∈ ([] : List Addr) from z) (by simp)) (by simp)
       | some u2 =>
         rcases hO b with z | ⟨ob, u3, z⟩
         · rw [q2] at z
           cases z
         · have z2 := un.frzs b ob _ z
           obtain ⟨e1, _⟩ := hok b _ z
           obtain ⟨e2, _⟩ := hok' b _ z2
           rw [e] at e1
           cases e1
           exact e2
     have KX' : K.In s'.heap := fun b o e => kept b o (KX b o e)
     obtain ⟨as, hrd⟩ := Dw.reads (R := R) (cl := cl) hok' KX' d0 v u q r'
     exact ⟨u, as, rfl, hrd, OldK.of_keep kept, os, bare⟩
theorem layable_weight {ds : List WData} (h : WData.layableAll ds = true) : ∀ d ∈ ds, d.weight ≤ 1048576 := fun d hd =>
 (PySem.W.layableW_iff.mp (List.all_eq_true.mp h d hd)).2.2
theorem encAll_len : ∀ (cs : List Codec) (a : Codec.denoteAll cs), (Codec.encAll cs a).length = cs.length
 | [], _ => rfl
 | c :: cs, a => by
   show (Codec.encAll cs a.2).length + 1 = cs.length + 1
   rw [encAll_len cs a.2]
theorem walk_spec {r : OpenSpec} {k : Nat} {q : Program} {loose : List Str} {XP : (Str → Option Value) → Heap → Prop} {YP : World → Heap → Prop} {d : DefRec} {K : Params → PySem.W.Frag} {CX : World → CXT} {ps : List Str} {sp : World → Sp}
   (hwell : r.wellSaid = true) (hdf : d.params.defaults = []) (hlen : r.args.length = ps.length) (hr : Room k callerA)
   (hY : ∀ (w : World) (h : Heap), YP w h → (K w.params).In h)
   (F : ∀ (w : World) (mg : Str → Option Value) (fa : Addr) (h : Heap), YP w h → (K w.params).In h → h.Ns mainGlobals mg → mg d.name = some (.ref fa) →
     ∃ fd : FuncData, (∀ (s : Shared) (us : List Value), us.length = ps.length → BindsTo s fd ⟨us, []⟩ (ps.zip us)) ∧
       ∀ base : Heap, (K w.params).In base → base.Ns mainGlobals mg → FnOk r.prog w (K w.params) mg base (CX w) k fa fd ps (sp w))
   (hsp : ∀ (w : World) (H : Hp) (xs : List V) (a : Codec.denoteAll r.args), OnlyF H → Codec.withinAll r.args a = true → Codec.app r.args r.asked a = true → DwAll (K w.params) H xs (Codec.encAll r.args a) →
     sp w xs H (fun v H' => Dw (K w.params) H' v (r.ret.enc (Codec.app r.args r.f a))) fun _ _ _ => False)
   (hCX : ∀ (w : World) (H : Hp) (s : Shared) (e : Value) (s' : Shared), CX w [] H s (fun _ _ _ => False) e s' → False) :
   PySem.W.WalkOS q loose XP YP r d [] (fun f vs => PySem.call f vs) := by
 intro w s_0 s₁ mg mb G Y fa o pm cd doc dV kV ho hd hcd hD hmg hg args vals as hpre hlay hrd hwl hlo
 obtain ⟨a, e1, e2⟩ := PySem.W.os_pre_some hpre
 obtain ⟨e3, hwi⟩ := Codec.encAll_of_decAll r.args args a e1
 subst e3
 have KX := hY w _ Y
 obtain ⟨fd, hb, hF⟩ := F w mg fa _ Y KX G.T.g hmg
 refine PySem.W.enter_call (codeAny_mono (spec_call (R := []) (cl := classAt s_0.heap) (d0 := r.ret.enc (Codec.app r.args r.f a)) KX G.T.g G.T.b G.T.builtins G.T.nolimit hg hwl (pl_encAll _ _) (layable_weight hlay) hr hF hb (by rw [encAll_len]; exact hlen)
   (fun H xs hO hS => hsp w H xs a hO hwi e2 hS) fun H e s' => hCX w H s₁ e s') fun r' s' hq => ?_)
 obtain ⟨u, as', rfl, h1, h2, h3, h4⟩ := hq
 exact ⟨.inl ⟨u, _, as', rfl, fun _ => rfl, h1, (OpenSpec.post_iff hwell hwi _ _).mpr rfl, fun z => Bool.noConfusion (show false = true from z)⟩, h2, h3, h4⟩
theorem walk_specK {r : OpenSpec} {k : Nat} {q : Program} {loose : List Str} {XP : (Str → Option Value) → Heap → Prop} {YP : World → Heap → Prop} {d : DefRec} {K : Params → PySem.W.Frag} {CX : CXT} {ps : List Str} {sp : PySem.W.Frag → Sp}
   (hwell : r.wellSaid = true) (hdf : d.params.defaults = []) (hlen : r.args.length = ps.length) (hr : Room k callerA)
   (hY : ∀ (w : World) (h : Heap), YP w h → (K w.params).In h)
   (F : ∀ (w : World) (mg : Str → Option Value) (fa : Addr) (h : Heap), YP w h → (K w.params).In h → h.Ns mainGlobals mg → mg d.name = some (.ref fa) →
     ∃ fd : FuncData, (∀ (s : Shared) (us : List Value), us.length = ps.length → BindsTo s fd ⟨us, []⟩ (ps.zip us)) ∧
       ∀ base : Heap, (K w.params).In base → base.Ns mainGlobals mg → FnOk r.prog w (K w.params) mg base CX k fa fd ps (sp (K w.params)))
   (hsp : ∀ (K : PySem.W.Frag) (H : Hp) (xs : List V) (a : Codec.denoteAll r.args), OnlyF H → Codec.withinAll r.args a = true → Codec.app r.args r.asked a = true → DwAll K H xs (Codec.encAll r.args a) →
     sp K xs H (fun v H' => Dw K H' v (r.ret.enc (Codec.app r.args r.f a))) fun _ _ _ => False)
   (hCX : ∀ (H : Hp) (s : Shared) (e : Value) (s' : Shared), CX [] H s (fun _ _ _ => False) e s' → False) :
   PySem.W.WalkOS q loose XP YP r d [] (fun f vs => PySem.call f vs) :=
 walk_spec (K := K) (CX := fun _ => CX) (sp := fun w => sp (K w.params)) hwell hdf hlen hr hY F (fun w H xs a h1 h2 h3 h4 => hsp (K w.params) H xs a h1 h2 h3 h4) fun _ H s e s' => hCX H s e s'
end L2
namespace SP
open PySem
def dif (a b : Nat) : Nat := a ^^^ (a &&& b)
theorem tb_dif (a b i : Nat) : (dif a b).testBit i = (a.testBit i && !b.testBit i) := by
 unfold dif
 rw [Nat.testBit_xor, Nat.testBit_and]
 cases a.testBit i <;> cases b.testBit i <;> rfl
theorem and_nat (a b : Nat) : Builtin.bitAnd (a : Int) (b : Int) = ((a &&& b : Nat) : Int) := by
 rw [PyProof.Rows.bitAnd_pp (Int.natCast_nonneg _) (Int.natCast_nonneg _), Int.toNat_natCast, Int.toNat_natCast]
theorem or_nat (a b : Nat) : Builtin.bitOr (a : Int) (b : Int) = ((a ||| b : Nat) : Int) := by
 rw [PyProof.Rows.bitOr_and, and_nat]
 have := PyProof.Rows.nat_or_add_and a b
 omega
theorem dif_nat (a b : Nat) : Builtin.bitAnd (a : Int) (Builtin.bitNot (b : Int)) = ((dif a b : Nat) : Int) := by
 rw [PyProof.Rows.bitAnd_not, and_nat]
 have h := PyProof.Rows.nat_or_add_and (dif a b) (a &&& b)
 have e1 : dif a b ||| (a &&& b) = a := by
   apply Nat.eq_of_testBit_eq
   intro i
   rw [Nat.testBit_or, tb_dif, Nat.testBit_and]
   cases a.testBit i <;> cases b.testBit i <;> rfl
 have e2 : dif a b &&& (a &&& b) = 0 := by
   apply Nat.eq_of_testBit_eq
   intro i
   rw [Nat.testBit_and, tb_dif, Nat.testBit_and, Nat.zero_testBit]
   cases a.testBit i <;> cases b.testBit i <;> rfl
 rw [e1, e2] at h
 omega
theorem shl_nat (a n : Nat) : (a : Int) * 2 ^ n = ((a <<< n : Nat) : Int) := by
 rw [Nat.shiftLeft_eq]
 simp
theorem shr_nat (a n : Nat) : (a : Int) / 2 ^ n = ((a >>> n : Nat) : Int) := by
 rw [Nat.shiftRight_eq_div_pow]
 simp
def rowB (left n : Nat) : Nat := (2 ^ n - 1) <<< left
theorem tb_rowB (left n i : Nat) : (rowB left n).testBit i = (decide (left ≤ i) && decide (i < left + n)) := by
 unfold rowB
 rw [Nat.testBit_shiftLeft, Nat.testBit_two_pow_sub_one]
 by_cases h : left ≤ i
 · simp only [h, decide_true, Bool.true_and]
   by_cases h2 : i < left + n
   · rw [decide_eq_true h2, decide_eq_true (by omega)]
     try simp [h]
   · rw [decide_eq_false h2, decide_eq_false (by omega)]
     try simp
 · simp [h]
def stack (row st lo : Nat) : Nat → Nat
 | 0 => 0
 | n + 1 => stack row st lo n ||| (row <<< ((lo + n) * st))
theorem ix_div {st x y : Nat} (h : x < st) : (y * st + x) / st = y ∧ (y * st + x) % st = x := by
 have hs : 0 < st := by omega
 constructor
 · rw [Nat.mul_comm, Nat.mul_add_div hs, Nat.div_eq_of_lt h, Nat.add_zero]
 · rw [Nat.mul_comm, Nat.mul_add_mod, Nat.mod_eq_of_lt h]
theorem ix_inj {st x y x' y' : Nat} (h : x < st) (h' : x' < st) (e : y * st + x = y' * st + x') : y = y' ∧ x = x' := by
 have a := ix_div (y := y) h
 have b := ix_div (y := y') h'
 rw [e] at a
 exact ⟨a.1.symm.trans b.1, a.2.symm.trans b.2⟩
theorem tb_stack {row st lo x y : Nat} (hx : x < st) (hr : ∀ i, row.testBit i = true → i < st) : ∀ n, (stack row st lo n).testBit (y * st + x) = (decide (lo ≤ y) && decide (y < lo + n) && row.testBit x)
 | 0 => by
   show (0 : Nat).testBit _ = _
   rw [Nat.zero_testBit]
   by_cases h : lo ≤ y
   · rw [decide_eq_false (show ¬ y < lo + 0 by omega)]
     simp
   · rw [decide_eq_false h]
     simp
 | n + 1 => by
   show (stack row st lo n ||| (row <<< ((lo + n) * st))).testBit (y * st + x) = _
   rw [Nat.testBit_or, tb_stack hx hr n, Nat.testBit_shiftLeft]
   have key : (decide ((lo + n) * st ≤ y * st + x) && row.testBit (y * st + x - (lo + n) * st)) = (decide (y = lo + n) && row.testBit x) := by
     by_cases hy : y = lo + n
     · subst hy
       have e : (lo + n) * st + x - (lo + n) * st = x := by omega
       rw [e, decide_eq_true (show (lo + n) * st ≤ (lo + n) * st + x by omega), decide_eq_true rfl]
     · rw [decide_eq_false hy, Bool.false_and]
       by_cases hle : (lo + n) * st ≤ y * st + x
       · rw [decide_eq_true hle, Bool.true_and]
         cases hb : row.testBit (y * st + x - (lo + n) * st) with
         | false => rfl
         | true =>
           have hlt := hr _ hb
           exfalso
           have e : y * st + x = (lo + n) * st + (y * st + x - (lo + n) * st) := by omega
           exact hy (ix_inj hx hlt e).1
       · rw [decide_eq_false hle, Bool.false_and]
   have key' : (decide (y * st + x ≥ (lo + n) * st) && row.testBit (y * st + x - (lo + n) * st)) = (decide (y = lo + n) && row.testBit x) := key
   rw [key']
   by_cases h1 : lo ≤ y
   · by_cases h2 : y < lo + n
     · rw [decide_eq_true h1, decide_eq_true h2, decide_eq_true (show y < lo + (n + 1) by omega), decide_eq_false (show ¬ y = lo + n by omega)]
       cases row.testBit x <;> rfl
     · by_cases h3 : y = lo + n
       · rw [decide_eq_true h1, decide_eq_false h2, decide_eq_true (show y < lo + (n + 1) by omega), decide_eq_true h3]
         cases row.testBit x <;> rfl
       · rw [decide_eq_true h1, decide_eq_false h2, decide_eq_false (show ¬ y < lo + (n + 1) by omega), decide_eq_false h3]
         cases row.testBit x <;> rfl
   · rw [decide_eq_false h1, decide_eq_false (show ¬ y = lo + n by omega)]
     cases row.testBit x <;> rfl
theorem stack_in {row st lo : Nat} {w : Nat} (hw : w < st) (hr : ∀ i, row.testBit i = true → i < w) : ∀ n i, (stack row st lo n).testBit i = true → i % st < w ∧ i / st < lo + n
 | 0, i, h => by
   have h : (0 : Nat).testBit i = true := h
   rw [Nat.zero_testBit] at h
   cases h
 | n + 1, i, h => by
   have h : (stack row st lo n ||| (row <<< ((lo + n) * st))).testBit i = true := h
   rw [Nat.testBit_or, Bool.or_eq_true] at h
   rcases h with h | h
   · have := stack_in hw hr n i h
     omega
   · rw [Nat.testBit_shiftLeft, Bool.and_eq_true] at h
     have hle : (lo + n) * st ≤ i := of_decide_eq_true h.1
     have hlt := hr _ h.2
     have e : i = (lo + n) * st + (i - (lo + n) * st) := by omega
     have d := ix_div (st := st) (y := lo + n) (show i - (lo + n) * st < st by omega)
     rw [← e] at d
     omega
def InF (w h S : Nat) : Prop := ∀ i, S.testBit i = true → i % (w + 3) < w ∧ i / (w + 3) < h
def hasP (w h S : Nat) (x y : Int) : Bool := decide (0 ≤ x) && decide (x < w) && decide (0 ≤ y) && decide (y < h) && S.testBit (y.toNat * (w + 3) + x.toNat)
def inFld (w h : Nat) (x y : Int) : Bool := decide (0 ≤ x) && decide (x < w) && decide (0 ≤ y) && decide (y < h)
def block (w h : Nat) (x1 y1 x2 y2 : Int) : Nat :=
 let left : Int := max x1 0
 let right : Int := min x2 (w - 1)
 if right < left then 0 else
   stack (rowB left.toNat (right - left + 1).toNat) (w + 3) (max y1 0).toNat (min y2 (h - 1) + 1 - max y1 0).toNat
theorem rowB_lt {left n w : Nat} (h : left + n ≤ w) : ∀ i, (rowB left n).testBit i = true → i < w := fun i hi => by
 rw [tb_rowB, Bool.and_eq_true] at hi
 have := of_decide_eq_true hi.2
 omega
theorem block_in (w h : Nat) (x1 y1 x2 y2 : Int) : InF w h (block w h x1 y1 x2 y2) := fun i hi => by
 unfold block at hi
 dsimp only at hi
 split at hi
 · rw [Nat.zero_testBit] at hi
   cases hi
 · rename_i hlr
   have hw : (max x1 0).toNat + (min x2 (↑w - 1) - max x1 0 + 1).toNat ≤ w := by omega
   by_cases hn : (min y2 (↑h - 1) + 1 - max y1 0).toNat = 0
   · rw [hn] at hi
     have hi : (0 : Nat).testBit i = true := hi
     rw [Nat.zero_testBit] at hi
     cases hi
   · have := stack_in (st := w + 3) (w := w) (by omega) (rowB_lt hw) _ i hi
     omega
theorem block_has (w h : Nat) (x1 y1 x2 y2 x y : Int) : hasP w h (block w h x1 y1 x2 y2) x y = (inFld w h x y && (decide (x1 ≤ x) && decide (x ≤ x2) && (decide (y1 ≤ y) && decide (y ≤ y2)))) := by
 unfold hasP inFld
 by_cases hf : 0 ≤ x ∧ x < w ∧ 0 ≤ y ∧ y < h
 · obtain ⟨h1, h2, h3, h4⟩ := hf
   rw [decide_eq_true h1, decide_eq_true h2, decide_eq_true h3, decide_eq_true h4]
   simp only [Bool.true_and]
   unfold block
   dsimp only
   split
   · rename_i hlr
     rw [Nat.zero_testBit]
     symm
     rw [Bool.and_eq_false_iff, Bool.and_eq_false_iff]
     by_cases q : x1 ≤ x
     · exact .inl (.inr (decide_eq_false (by omega)))
     · exact .inl (.inl (decide_eq_false q))
   · rename_i hlr
     have hw : (max x1 0).toNat + (min x2 (↑w - 1) - max x1 0 + 1).toNat ≤ w + 3 := by omega
     rw [tb_stack (by omega) (rowB_lt hw), tb_rowB]
     rw [Bool.eq_iff_iff]
     simp only [Bool.and_eq_true, decide_eq_true_eq]
     omega
 · have : (decide (0 ≤ x) && decide (x < ↑w) && decide (0 ≤ y) && decide (y < ↑h)) = false := by
     rw [Bool.eq_false_iff]
     intro e
     simp only [Bool.and_eq_true, decide_eq_true_eq] at e
     exact hf ⟨e.1.1.1, e.1.1.2, e.1.2, e.2⟩
   rw [this]
   rfl
def every (w h : Nat) : Nat := block w h 0 0 (w - 1) (h - 1)
theorem every_in (w h : Nat) : InF w h (every w h) := block_in w h 0 0 (w - 1) (h - 1)
theorem every_has (w h : Nat) (x y : Int) : hasP w h (every w h) x y = inFld w h x y := by
 unfold every
 rw [block_has]
 unfold inFld
 rw [Bool.eq_iff_iff]
 simp only [Bool.and_eq_true, decide_eq_true_eq]
 omega
def before (w h S : Nat) (vx vy : Int) : Nat :=
 let step : Int := vy * (w + 3) + vx
 if 0 ≤ step then (S >>> step.toNat) &&& every w h else (S <<< (-step).toNat) &&& every w h
theorem InF.and_right {w h a b : Nat} (hb : InF w h b) : InF w h (a &&& b) := fun i hi => by
 rw [Nat.testBit_and, Bool.and_eq_true] at hi
 exact hb i hi.2
theorem InF.and_left {w h a b : Nat} (ha : InF w h a) : InF w h (a &&& b) := fun i hi => by
 rw [Nat.testBit_and, Bool.and_eq_true] at hi
 exact ha i hi.1
theorem InF.or {w h a b : Nat} (ha : InF w h a) (hb : InF w h b) : InF w h (a ||| b) := fun i hi => by
 rw [Nat.testBit_or, Bool.or_eq_true] at hi
 exact hi.elim (ha i) (hb i)
theorem InF.dif {w h a b : Nat} (ha : InF w h a) : InF w h (dif a b) := fun i hi => by
 rw [tb_dif, Bool.and_eq_true] at hi
 exact ha i hi.1
theorem InF.zero (w h : Nat) : InF w h 0 := fun i hi => by
 rw [Nat.zero_testBit] at hi
 cases hi
theorem before_in (w h S : Nat) (vx vy : Int) : InF w h (before w h S vx vy) := by
 unfold before
 dsimp only
 split
 · exact (every_in w h).and_right
 · exact (every_in w h).and_right
theorem hasP_out {w h S : Nat} {x y : Int} (hf : ¬ (0 ≤ x ∧ x < w ∧ 0 ≤ y ∧ y < h)) : hasP w h S x y = false := by
 unfold hasP
 have : (decide (0 ≤ x) && decide (x < ↑w) && decide (0 ≤ y) && decide (y < ↑h)) = false := by
   rw [Bool.eq_false_iff]
   intro e
   simp only [Bool.and_eq_true, decide_eq_true_eq] at e
   exact hf ⟨e.1.1.1, e.1.1.2, e.1.2, e.2⟩
 rw [this]
 rfl
theorem hasP_in {w h S : Nat} {x y : Int} (hf : 0 ≤ x ∧ x < w ∧ 0 ≤ y ∧ y < h) : hasP w h S x y = S.testBit (y.toNat * (w + 3) + x.toNat) := by
 unfold hasP
 rw [decide_eq_true hf.1, decide_eq_true hf.2.1, decide_eq_true hf.2.2.1, decide_eq_true hf.2.2.2]
 simp only [Bool.true_and]
theorem inFld_in {w h : Nat} {x y : Int} (hf : 0 ≤ x ∧ x < w ∧ 0 ≤ y ∧ y < h) : inFld w h x y = true := by
 unfold inFld
 rw [decide_eq_true hf.1, decide_eq_true hf.2.1, decide_eq_true hf.2.2.1, decide_eq_true hf.2.2.2]
 rfl
theorem inFld_iff {w h : Nat} {x y : Int} : inFld w h x y = true ↔ (0 ≤ x ∧ x < w ∧ 0 ≤ y ∧ y < h) := by
 unfold inFld
 simp only [Bool.and_eq_true, decide_eq_true_eq]
 omega
theorem bit_at {w h S i : Nat} {X Y : Int} (hS : InF w h S) (e : (i : Int) = Y * (w + 3) + X) (hX : -3 ≤ X) (hX2 : X < w + 3) : S.testBit i = hasP w h S X Y := by
 by_cases hf : 0 ≤ X ∧ X < w ∧ 0 ≤ Y ∧ Y < h
 · rw [hasP_in hf]
   have e2 : i = Y.toNat * (w + 3) + X.toNat := by
     have h1 : ((Y.toNat : Nat) : Int) = Y := Int.toNat_of_nonneg hf.2.2.1
     have h2 : ((X.toNat : Nat) : Int) = X := Int.toNat_of_nonneg hf.1
     have h3 : ((Y.toNat * (w + 3) + X.toNat : Nat) : Int) = Y * (w + 3) + X := by
       rw [Int.natCast_add, Int.natCast_mul, h1, h2]
       rfl
     omega
   rw [e2]
 · rw [hasP_out hf]
   cases hb : S.testBit i with
   | false => rfl
   | true =>
     exfalso
     obtain ⟨a, b⟩ := hS i hb
     -- i = (i / st) * st + i % st
     have d : ((i / (w + 3) : Nat) : Int) * (w + 3) + ((i % (w + 3) : Nat) : Int) = i := by
       have := Nat.div_add_mod i (w + 3)
       have q : ((w + 3) * (i / (w + 3)) + i % (w + 3) : Nat) = i := this
       have q2 : (((w + 3) * (i / (w + 3)) + i % (w + 3) : Nat) : Int) = (i : Int) := by rw [q]
       rw [Int.natCast_add, Int.natCast_mul] at q2
       rw [Int.mul_comm]
       exact q2
     generalize i / (w + 3) = q at *
     generalize i % (w + 3) = r at *
     have st : (0 : Int) < w + 3 := by omega
     -- compare the rows
     have dd : (q : Int) * (w + 3) + r = Y * (w + 3) + X := by omega
     have dd2 : ((q : Int) - Y) * (w + 3) = X - r := by
       rw [Int.sub_mul]
       omega
     have c1 : (q : Int) - Y < 1 := by
       apply Int.lt_of_mul_lt_mul_right (a := (w + 3 : Int)) _ (by omega)
       rw [dd2]
       omega
     have c2 : -1 - 1 < (q : Int) - Y := by
       apply Int.lt_of_mul_lt_mul_right (a := (w + 3 : Int)) _ (by omega)
       rw [dd2]
       omega
     have c3 : (q : Int) - Y = 0 ∨ (q : Int) - Y = -1 := by omega
     rcases c3 with c | c
     · rw [c] at dd2
       have : X = r := by omega
       apply hf
       omega
     · rw [c] at dd2
       have : X = r - (w + 3) := by omega
       omega
theorem before_has {w h S : Nat} {vx vy x y : Int} (hS : InF w h S) (h1 : -3 ≤ vx) (h2 : vx ≤ 3) : hasP w h (before w h S vx vy) x y = (inFld w h x y && hasP w h S (x + vx) (y + vy)) := by
 by_cases hf : 0 ≤ x ∧ x < w ∧ 0 ≤ y ∧ y < h
 · rw [hasP_in hf, inFld_in hf, Bool.true_and]
   have hx : ((x.toNat : Nat) : Int) = x := Int.toNat_of_nonneg hf.1
   have hy : ((y.toNat : Nat) : Int) = y := Int.toNat_of_nonneg hf.2.2.1
   have hi : ((y.toNat * (w + 3) + x.toNat : Nat) : Int) = y * (w + 3) + x := by
     rw [Int.natCast_add, Int.natCast_mul, hx, hy]
     rfl
   have hE : (every w h).testBit (y.toNat * (w + 3) + x.toNat) = true := by
     have := every_has w h x y
     rw [hasP_in hf, inFld_in hf] at this
     exact this
   have expand : (y + vy) * ((w : Int) + 3) + (x + vx) = (y * (w + 3) + x) + (vy * (w + 3) + vx) := by
     rw [Int.add_mul]
     omega
   unfold before
   dsimp only
   generalize hst : vy * ((w : Int) + 3) + vx = step at *
   generalize hii : y.toNat * (w + 3) + x.toNat = i at *
   split
   · rename_i hs
     rw [Nat.testBit_and, hE, Bool.and_true, Nat.testBit_shiftRight]
     refine bit_at hS ?_ (by omega) (by omega)
     rw [expand]
     omega
   · rename_i hs
     rw [Nat.testBit_and, hE, Bool.and_true, Nat.testBit_shiftLeft]
     by_cases hle : (-step).toNat ≤ i
     · rw [decide_eq_true (show i ≥ (-step).toNat from hle), Bool.true_and]
       refine bit_at hS ?_ (by omega) (by omega)
       rw [expand]
       omega
     · rw [decide_eq_false (show ¬ i ≥ (-step).toNat from hle), Bool.false_and]
       symm
       apply hasP_out
       rintro ⟨a, b, c, d⟩
       have : (0 : Int) ≤ (y + vy) * ((w : Int) + 3) + (x + vx) := Int.add_nonneg (Int.mul_nonneg c (by omega)) a
       omega
 · rw [hasP_out hf]
   have : inFld w h x y = false := by
     rw [Bool.eq_false_iff]
     intro e
     exact hf (inFld_iff.mp e)
   rw [this]
   rfl
theorem hasP_or {w h a b : Nat} {x y : Int} : hasP w h (a ||| b) x y = (hasP w h a x y || hasP w h b x y) := by
 unfold hasP
 rw [Nat.testBit_or]
 cases (decide (0 ≤ x) && decide (x < (w : Int)) && decide (0 ≤ y) && decide (y < (h : Int))) <;> rfl
theorem hasP_and {w h a b : Nat} {x y : Int} : hasP w h (a &&& b) x y = (hasP w h a x y && hasP w h b x y) := by
 unfold hasP
 rw [Nat.testBit_and]
 cases (decide (0 ≤ x) && decide (x < (w : Int)) && decide (0 ≤ y) && decide (y < (h : Int))) <;> simp
theorem hasP_dif {w h a b : Nat} {x y : Int} : hasP w h (dif a b) x y = (hasP w h a x y && !hasP w h b x y) := by
 unfold hasP
 rw [tb_dif]
 cases (decide (0 ≤ x) && decide (x < (w : Int)) && decide (0 ≤ y) && decide (y < (h : Int))) <;> simp
theorem hasP_zero {w h : Nat} {x y : Int} : hasP w h 0 x y = false := by
 unfold hasP
 rw [Nat.zero_testBit, Bool.and_false]
def placeB (w : Nat) (x y : Nat) : Nat := 1 <<< (y * (w + 3) + x)
theorem and_place {S w x y : Nat} : (S &&& placeB w x y ≠ 0) ↔ S.testBit (y * (w + 3) + x) = true := by
 unfold placeB
 rw [Nat.one_shiftLeft]
 constructor
 · intro hne
   cases hb : S.testBit (y * (w + 3) + x) with
   | true => rfl
   | false =>
     exfalso
     apply hne
     apply Nat.eq_of_testBit_eq
     intro i
     rw [Nat.testBit_and, Nat.testBit_two_pow, Nat.zero_testBit]
     by_cases e : y * (w + 3) + x = i
     · rw [← e, hb, Bool.false_and]
     · rw [decide_eq_false e, Bool.and_false]
 · intro hb e
   have : (S &&& 2 ^ (y * (w + 3) + x)).testBit (y * (w + 3) + x) = (0 : Nat).testBit (y * (w + 3) + x) := by rw [e]
   rw [Nat.testBit_and, hb, Nat.testBit_two_pow, decide_eq_true rfl, Nat.zero_testBit] at this
   cases this
theorem place_in {w h x y : Nat} (hx : x < w) (hy : y < h) : InF w h (placeB w x y) := fun i hi => by
 unfold placeB at hi
 rw [Nat.one_shiftLeft, Nat.testBit_two_pow] at hi
 have e : y * (w + 3) + x = i := of_decide_eq_true hi
 have d := ix_div (st := w + 3) (y := y) (show x < w + 3 by omega)
 rw [e] at d
 omega
theorem place_has {w h : Nat} {px py x y : Int} (hp : 0 ≤ px ∧ px < w ∧ 0 ≤ py ∧ py < h) : hasP w h (placeB w px.toNat py.toNat) x y = (decide (x = px) && decide (y = py)) := by
 by_cases hf : 0 ≤ x ∧ x < w ∧ 0 ≤ y ∧ y < h
 · rw [hasP_in hf]
   unfold placeB
   rw [Nat.one_shiftLeft, Nat.testBit_two_pow, Bool.eq_iff_iff]
   simp only [Bool.and_eq_true, decide_eq_true_eq]
   constructor
   · intro e
     have := ix_inj (st := w + 3) (by omega) (by omega) e
     omega
   · rintro ⟨rfl, rfl⟩
     rfl
 · rw [hasP_out hf]
   symm
   rw [Bool.eq_false_iff]
   intro e
   simp only [Bool.and_eq_true, decide_eq_true_eq] at e
   exact hf (by omega)
theorem zero_of {w h S : Nat} (hS : InF w h S) (hz : ∀ x y : Int, hasP w h S x y = false) : S = 0 := by
 apply Nat.eq_of_testBit_eq
 intro i
 rw [Nat.zero_testBit]
 cases hb : S.testBit i with
 | false => rfl
 | true =>
   obtain ⟨a, b⟩ := hS i hb
   have e : i = (i / (w + 3)) * (w + 3) + i % (w + 3) := by
     have := Nat.div_add_mod i (w + 3)
     rw [Nat.mul_comm] at this
     omega
   have q := hz ((i % (w + 3) : Nat) : Int) ((i / (w + 3) : Nat) : Int)
   rw [hasP_in ⟨Int.natCast_nonneg _, by exact_mod_cast a, Int.natCast_nonneg _, by exact_mod_cast b⟩, Int.toNat_natCast, Int.toNat_natCast, ← e, hb] at q
   cases q
end SP
namespace SP
open Sr39 (Box Thing touches Ever)
open Sr40 (Map_ State Burn dx dy)
open Sr41Neutral (axisAt moments hits ticksTo harmlessB)
def ent (lo hi x v : Int) : Int :=
 if v = 1 then 6 * (lo - x) else if v = 2 then 3 * (lo - x) else if v = 3 then 2 * (lo - x) else
 if v = -1 then 6 * (x - hi) else if v = -2 then 3 * (x - hi) else if v = -3 then 2 * (x - hi) else 0
theorem cases7 {v : Int} (h1 : -3 ≤ v) (h2 : v ≤ 3) : v = -3 ∨ v = -2 ∨ v = -1 ∨ v = 0 ∨ v = 1 ∨ v = 2 ∨ v = 3 := by omega
theorem axis1 {lo hi x v n d : Int} (h1 : -3 ≤ v) (h2 : v ≤ 3) (hd : 0 < d) (hn : 0 ≤ n) (a : lo * d ≤ x * d + n * v) (b : x * d + n * v ≤ hi * d) : ent lo hi x v * d ≤ 6 * n := by
 rcases cases7 h1 h2 with rfl | rfl | rfl | rfl | rfl | rfl | rfl
 · show (2 * (x - hi)) * d ≤ 6 * n
   rw [Int.mul_assoc, Int.sub_mul]; omega
 · show (3 * (x - hi)) * d ≤ 6 * n
   rw [Int.mul_assoc, Int.sub_mul]; omega
 · show (6 * (x - hi)) * d ≤ 6 * n
   rw [Int.mul_assoc, Int.sub_mul]; omega
 · show 0 * d ≤ 6 * n
   omega
 · show (6 * (lo - x)) * d ≤ 6 * n
   rw [Int.mul_assoc, Int.sub_mul]; omega
 · show (3 * (lo - x)) * d ≤ 6 * n
   rw [Int.mul_assoc, Int.sub_mul]; omega
 · show (2 * (lo - x)) * d ≤ 6 * n
   rw [Int.mul_assoc, Int.sub_mul]; omega
theorem six_le {p q d : Int} (hd : 0 < d) (h : p * d ≤ q * d) : p ≤ q := Int.le_of_mul_le_mul_right h hd
theorem axis2 {lo hi x v n d N : Int} (h1 : -3 ≤ v) (h2 : v ≤ 3) (hd : 0 < d) (hn : 0 ≤ n) (a : lo * d ≤ x * d + n * v) (b : x * d + n * v ≤ hi * d) (hN : 0 ≤ N) (he : ent lo hi x v ≤ N) (hl : N * d ≤ 6 * n) :
   lo * 6 ≤ x * 6 + N * v ∧ x * 6 + N * v ≤ hi * 6 := by
 rcases cases7 h1 h2 with rfl | rfl | rfl | rfl | rfl | rfl | rfl
 · have he : 2 * (x - hi) ≤ N := he
   refine ⟨six_le hd ?_, by omega⟩
   rw [Int.mul_right_comm, Int.add_mul, Int.mul_right_comm x, Int.mul_right_comm N]; omega
 · have he : 3 * (x - hi) ≤ N := he
   refine ⟨six_le hd ?_, by omega⟩
   rw [Int.mul_right_comm, Int.add_mul, Int.mul_right_comm x, Int.mul_right_comm N]; omega
 · have he : 6 * (x - hi) ≤ N := he
   refine ⟨six_le hd ?_, by omega⟩
   rw [Int.mul_right_comm, Int.add_mul, Int.mul_right_comm x, Int.mul_right_comm N]; omega
 · constructor
   · have : lo ≤ x := six_le hd (by omega)
     omega
   · have : x ≤ hi := six_le hd (by omega)
     omega
 · have he : 6 * (lo - x) ≤ N := he
   refine ⟨by omega, six_le hd ?_⟩
   rw [Int.mul_right_comm hi, Int.add_mul, Int.mul_right_comm x, Int.mul_right_comm N]; omega
 · have he : 3 * (lo - x) ≤ N := he
   refine ⟨by omega, six_le hd ?_⟩
   rw [Int.mul_right_comm hi, Int.add_mul, Int.mul_right_comm x, Int.mul_right_comm N]; omega
 · have he : 2 * (lo - x) ≤ N := he
   refine ⟨by omega, six_le hd ?_⟩
   rw [Int.mul_right_comm hi, Int.add_mul, Int.mul_right_comm x, Int.mul_right_comm N]; omega
structure Slow (s : State) : Prop where
 a : -3 ≤ s.vx
 b : s.vx ≤ 3
 c : -3 ≤ s.vy
 d : s.vy ≤ 3
theorem first_touch {b : Box} {s : State} (hs : Slow s) {n d : Nat} (hd : 0 < d) (t : touches b s n d) :
   ∃ N : Nat, touches b s N 6 ∧ N * d ≤ 6 * n ∧ (N = 0 ∨ (N : Int) = ent b.x1 b.x2 s.x s.vx ∨ (N : Int) = ent b.y1 b.y2 s.y s.vy) := by
 obtain ⟨t1, t2, t3, t4⟩ := t
 have hd' : (0 : Int) < d := by exact_mod_cast hd
 have hn' : (0 : Int) ≤ n := Int.natCast_nonneg n
 have ex := axis1 hs.a hs.b hd' hn' t1 t2
 have ey := axis1 hs.c hs.d hd' hn' t3 t4
 have fx := fun N => axis2 (N := N) hs.a hs.b hd' hn' t1 t2
 have fy := fun N => axis2 (N := N) hs.c hs.d hd' hn' t3 t4
 generalize ent b.x1 b.x2 s.x s.vx = p at *
 generalize ent b.y1 b.y2 s.y s.vy = q at *
 have pick : ∃ N : Nat, p ≤ N ∧ q ≤ N ∧ (N : Int) * d ≤ 6 * n ∧ (N = 0 ∨ (N : Int) = p ∨ (N : Int) = q) := by
   by_cases h1 : p ≤ 0 ∧ q ≤ 0
   · exact ⟨0, h1.1, h1.2, by omega, .inl rfl⟩
   · by_cases h2 : q ≤ p
     · have e : ((p.toNat : Nat) : Int) = p := Int.toNat_of_nonneg (by omega)
       exact ⟨p.toNat, by omega, by omega, by rw [e]; exact ex, .inr (.inl e)⟩
     · have e : ((q.toNat : Nat) : Int) = q := Int.toNat_of_nonneg (by omega)
       exact ⟨q.toNat, by omega, by omega, by rw [e]; exact ey, .inr (.inr e)⟩
 obtain ⟨N, hp, hq, hl, hc⟩ := pick
 have gx := fx N (Int.natCast_nonneg N) hp hl
 have gy := fy N (Int.natCast_nonneg N) hq hl
 exact ⟨N, ⟨gx.1, gx.2, gy.1, gy.2⟩, by exact_mod_cast hl, hc⟩
theorem abs_pos' {z : Int} (h : 0 ≤ z) : ((z.natAbs : Nat) : Int) = z := Int.natAbs_of_nonneg h
theorem abs_neg' {z : Int} (h : z ≤ 0) : ((z.natAbs : Nat) : Int) = -z := Int.ofNat_natAbs_of_nonpos h
theorem mem_hits {b : Box} {s : State} {c : Nat × Nat} : c ∈ hits b s ↔ c ∈ moments b s ∧ 0 < c.2 ∧ touches b s c.1 c.2 := by
 unfold hits
 rw [List.mem_filter, Bool.and_eq_true, decide_eq_true_eq, decide_eq_true_eq]
theorem mom0 {b : Box} {s : State} : ((0, 1) : Nat × Nat) ∈ moments b s := by unfold moments axisAt; simp
theorem momx1 {b : Box} {s : State} : ((b.x1 - s.x).natAbs, s.vx.natAbs) ∈ moments b s := by unfold moments axisAt; simp
theorem momx2 {b : Box} {s : State} : ((b.x2 - s.x).natAbs, s.vx.natAbs) ∈ moments b s := by unfold moments axisAt; simp
theorem momy1 {b : Box} {s : State} : ((b.y1 - s.y).natAbs, s.vy.natAbs) ∈ moments b s := by unfold moments axisAt; simp
theorem momy2 {b : Box} {s : State} : ((b.y2 - s.y).natAbs, s.vy.natAbs) ∈ moments b s := by unfold moments axisAt; simp
theorem same_moment {b : Box} {s : State} {n d n' d' : Nat} (hd : 0 < d) (hd' : 0 < d') (e : n * d' = n' * d) (t : touches b s n d) : touches b s n' d' := by
 obtain ⟨t1, t2, t3, t4⟩ := t
 have h1 : (0 : Int) < d := by exact_mod_cast hd
 have h2 : (0 : Int) ≤ d' := Int.natCast_nonneg d'
 have e' : (n : Int) * d' = n' * d := by exact_mod_cast e
 have lift : ∀ p q v : Int, p * d ≤ q * d + n * v → p * d' ≤ q * d' + n' * v := fun p q v h => by
   refine six_le h1 ?_
   have h3 := Int.mul_le_mul_of_nonneg_right h h2
   rw [Int.add_mul] at h3 ⊢
   rw [Int.mul_right_comm p, Int.mul_right_comm q, Int.mul_right_comm (n' : Int), ← e', Int.mul_right_comm (n : Int) d' v]
   rw [Int.mul_right_comm (n : Int)] at h3
   rw [Int.mul_right_comm (n : Int)]
   exact h3
 have lift2 : ∀ p q v : Int, q * d + n * v ≤ p * d → q * d' + n' * v ≤ p * d' := fun p q v h => by
   refine six_le h1 ?_
   have h3 := Int.mul_le_mul_of_nonneg_right h h2
   rw [Int.add_mul] at h3 ⊢
   rw [Int.mul_right_comm p, Int.mul_right_comm q, Int.mul_right_comm (n' : Int), ← e', Int.mul_right_comm (n : Int) d' v]
   rw [Int.mul_right_comm (n : Int)] at h3
   rw [Int.mul_right_comm (n : Int)]
   exact h3
 exact ⟨lift _ _ _ t1, lift2 _ _ _ t2, lift _ _ _ t3, lift2 _ _ _ t4⟩
theorem ent_form {lo hi x v : Int} (h1 : -3 ≤ v) (h2 : v ≤ 3) (h : 0 < ent lo hi x v) :
   (0 < v ∧ 0 ≤ lo - x ∧ ent lo hi x v * v = 6 * (lo - x)) ∨ (v < 0 ∧ hi - x ≤ 0 ∧ ent lo hi x v * v = 6 * (hi - x)) := by
 rcases cases7 h1 h2 with rfl | rfl | rfl | rfl | rfl | rfl | rfl
 · have h : 0 < 2 * (x - hi) := h
   refine .inr ⟨by omega, by omega, ?_⟩
   show (2 * (x - hi)) * (-3) = _
   omega
 · have h : 0 < 3 * (x - hi) := h
   refine .inr ⟨by omega, by omega, ?_⟩
   show (3 * (x - hi)) * (-2) = _
   omega
 · have h : 0 < 6 * (x - hi) := h
   refine .inr ⟨by omega, by omega, ?_⟩
   show (6 * (x - hi)) * (-1) = _
   omega
 · have h : (0 : Int) < 0 := h
   omega
 · have h : 0 < 6 * (lo - x) := h
   refine .inl ⟨by omega, by omega, ?_⟩
   show (6 * (lo - x)) * 1 = _
   omega
 · have h : 0 < 3 * (lo - x) := h
   refine .inl ⟨by omega, by omega, ?_⟩
   show (3 * (lo - x)) * 2 = _
   omega
 · have h : 0 < 2 * (lo - x) := h
   refine .inl ⟨by omega, by omega, ?_⟩
   show (2 * (lo - x)) * 3 = _
   omega
theorem hit_before {b : Box} {s : State} (hs : Slow s) {n d : Nat} (hd : 0 < d) (t : touches b s n d) : ∃ c ∈ hits b s, c.1 * d ≤ n * c.2 := by
 obtain ⟨N, tN, hl, hc⟩ := first_touch hs hd t
 have go : ∀ c : Nat × Nat, c ∈ moments b s → 0 < c.2 → N * c.2 = 6 * c.1 → ∃ c ∈ hits b s, c.1 * d ≤ n * c.2 := fun c hm hc2 e => by
   refine ⟨c, mem_hits.mpr ⟨hm, hc2, same_moment (by decide) hc2 (by omega) tN⟩, ?_⟩
   have h3 : N * d * c.2 ≤ 6 * n * c.2 := Nat.mul_le_mul_right _ hl
   rw [Nat.mul_right_comm, e] at h3
   have h4 : 6 * (c.1 * d) ≤ 6 * (n * c.2) := by rw [← Nat.mul_assoc, ← Nat.mul_assoc]; exact h3
   omega
 have ax : ∀ lo hi x v : Int, -3 ≤ v → v ≤ 3 → 0 < ent lo hi x v → (N : Int) = ent lo hi x v → (((lo - x).natAbs, v.natAbs) ∈ moments b s) → (((hi - x).natAbs, v.natAbs) ∈ moments b s) → ∃ c ∈ hits b s, c.1 * d ≤ n * c.2 := fun lo hi x v h1 h2 hp e m1 m2 => by
   rcases ent_form h1 h2 hp with ⟨a1, a2, a3⟩ | ⟨a1, a2, a3⟩
   · refine go _ m1 (by show 0 < v.natAbs; omega) ?_
     show N * v.natAbs = 6 * (lo - x).natAbs
     have q : (N : Int) * v = 6 * (lo - x) := by rw [e]; exact a3
     have q2 : ((N * v.natAbs : Nat) : Int) = ((6 * (lo - x).natAbs : Nat) : Int) := by
       rw [Int.natCast_mul, Int.natCast_mul, abs_pos' (by omega : 0 ≤ v), abs_pos' a2]
       exact q
     exact_mod_cast q2
   · refine go _ m2 (by show 0 < v.natAbs; omega) ?_
     show N * v.natAbs = 6 * (hi - x).natAbs
     have q : (N : Int) * v = 6 * (hi - x) := by rw [e]; exact a3
     have q2 : ((N * v.natAbs : Nat) : Int) = ((6 * (hi - x).natAbs : Nat) : Int) := by
       rw [Int.natCast_mul, Int.natCast_mul, abs_neg' (by omega : v ≤ 0), abs_neg' a2, Int.mul_neg, q]
       show -(6 * (hi - x)) = 6 * (-(hi - x))
       omega
     exact_mod_cast q2
 by_cases h0 : N = 0
 · subst h0
   exact go (0, 1) mom0 (by decide) (by decide)
 · rcases hc with hc | hc | hc
   · exact absurd hc h0
   · exact ax _ _ _ _ hs.a hs.b (by omega) hc momx1 momx2
   · exact ax _ _ _ _ hs.c hs.d (by omega) hc momy1 momy2
theorem hits_empty {b : Box} {s : State} (hs : Slow s) : (hits b s).isEmpty = true ↔ ∀ N : Nat, ¬ touches b s N 6 := by
 rw [List.isEmpty_iff]
 constructor
 · intro e N t
   obtain ⟨c, hc, _⟩ := hit_before hs (by decide) t
   rw [e] at hc
   cases hc
 · intro h
   cases e : hits b s with
   | nil => rfl
   | cons c r =>
     exfalso
     have hc : c ∈ hits b s := by rw [e]; exact List.mem_cons_self ..
     obtain ⟨_, h2, h3⟩ := mem_hits.mp hc
     obtain ⟨N, tN, _⟩ := first_touch hs h2 h3
     exact h N tN
theorem hits_late {b : Box} {s : State} (hs : Slow s) {k : Nat} : ((hits b s).all fun c => decide (k * c.2 ≤ c.1)) = true ↔ ∀ N : Nat, touches b s N 6 → 6 * k ≤ N := by
 rw [List.all_eq_true]
 constructor
 · intro h N t
   obtain ⟨c, hc, hl⟩ := hit_before hs (by decide) t
   have h1 : k * c.2 ≤ c.1 := of_decide_eq_true (h c hc)
   have h2 := (mem_hits.mp hc).2.1
   have h3 : k * c.2 * 6 ≤ N * c.2 := Nat.le_trans (Nat.mul_le_mul_right 6 h1) hl
   rw [Nat.mul_right_comm] at h3
   have := Nat.le_of_mul_le_mul_right h3 h2
   omega
 · intro h c hc
   obtain ⟨_, h2, h3⟩ := mem_hits.mp hc
   obtain ⟨N, tN, hl, _⟩ := first_touch hs h2 h3
   have h4 := h N tN
   refine decide_eq_true ?_
   have h5 : 6 * k * c.2 ≤ N * c.2 := Nat.mul_le_mul_right _ h4
   have h6 : 6 * (k * c.2) ≤ 6 * c.1 := by rw [← Nat.mul_assoc]; exact Nat.le_trans h5 hl
   omega
end SP
namespace SP
open Sr39 (Box Thing touches Ever)
open Sr40 (Map_ State Burn dx dy)
open Sr41Neutral (axisAt moments hits ticksTo harmlessB)
def soonB (w h : Nat) (a b : Int) (p : Nat) : List Box → Nat
 | [] => p
 | bx :: r => soonB w h a b (p ||| block w h (bx.x1 - a / 6) (bx.y1 - b / 6) (bx.x2 + (-a) / 6) (bx.y2 + (-b) / 6)) r
def soonN (w h : Nat) (bs : List Box) (vx vy : Int) : Nat → Nat
 | 0 => 0
 | n + 1 => soonB w h ((n : Int) * vx) ((n : Int) * vy) (soonN w h bs vx vy n) bs
def soon (w h : Nat) (bs : List Box) (vx vy : Int) : Nat := soonN w h bs vx vy 6
def everN (w h S : Nat) (vx vy : Int) : Nat → Nat
 | 0 => S
 | n + 1 => S ||| before w h (everN w h S vx vy n) vx vy
def ever (w h S : Nat) (vx vy : Int) : Nat := everN w h S vx vy (max w h)
def latN (w h S : Nat) (p : Nat) (vx vy : Int) : Nat → Nat
 | 0 => p
 | n + 1 => dif (before w h (latN w h S p vx vy n) vx vy) S
def comN (w h S : Nat) (p : Nat) (vx vy : Int) : Nat → Nat
 | 0 => 0
 | n + 1 => comN w h S p vx vy n ||| latN w h S p vx vy n
def SoonAt (bs : List Box) (vx vy x y : Int) : Prop := ∃ k : Nat, k < 6 ∧ ∃ b ∈ bs, touches b ⟨x, y, vx, vy⟩ k 6
theorem soonB_has {w h : Nat} {a b x y : Int} : ∀ (bs : List Box) (p : Nat), hasP w h (soonB w h a b p bs) x y = true ↔ hasP w h p x y = true ∨ (inFld w h x y = true ∧ ∃ bx ∈ bs, bx.x1 * 6 ≤ x * 6 + a ∧ x * 6 + a ≤ bx.x2 * 6 ∧ bx.y1 * 6 ≤ y * 6 + b ∧ y * 6 + b ≤ bx.y2 * 6)
 | [], p => by
   show hasP w h p x y = true ↔ _
   simp
 | bx :: r, p => by
   show hasP w h (soonB w h a b _ r) x y = true ↔ _
   rw [soonB_has r, hasP_or, block_has, Bool.or_eq_true, Bool.and_eq_true]
   simp only [Bool.and_eq_true, decide_eq_true_eq, List.mem_cons]
   constructor
   · rintro ((h1 | ⟨h1, h2⟩) | ⟨h1, c, hc, h2⟩)
     · exact .inl h1
     · exact .inr ⟨h1, bx, .inl rfl, by omega⟩
     · exact .inr ⟨h1, c, .inr hc, h2⟩
   · rintro (h1 | ⟨h1, c, (rfl | hc), h2⟩)
     · exact .inl (.inl h1)
     · exact .inl (.inr ⟨h1, by omega⟩)
     · exact .inr ⟨h1, c, hc, h2⟩
theorem soonB_in {w h : Nat} {a b : Int} : ∀ (bs : List Box) (p : Nat), InF w h p → InF w h (soonB w h a b p bs)
 | [], p, hp => hp
 | bx :: r, p, hp => soonB_in r _ (hp.or (block_in _ _ _ _ _ _))
theorem soonN_in {w h : Nat} {bs : List Box} {vx vy : Int} : ∀ n, InF w h (soonN w h bs vx vy n)
 | 0 => InF.zero w h
 | n + 1 => soonB_in bs _ (soonN_in n)
theorem soonN_has {w h : Nat} {bs : List Box} {vx vy x y : Int} : ∀ n, hasP w h (soonN w h bs vx vy n) x y = true ↔ inFld w h x y = true ∧ ∃ k : Nat, k < n ∧ ∃ b ∈ bs, touches b ⟨x, y, vx, vy⟩ k 6
 | 0 => by
   show hasP w h 0 x y = true ↔ _
   rw [hasP_zero]
   simp
 | n + 1 => by
   show hasP w h (soonB w h _ _ _ bs) x y = true ↔ _
   rw [soonB_has, soonN_has n]
   constructor
   · rintro (⟨h1, k, hk, h2⟩ | ⟨h1, b, hb, h2⟩)
     · exact ⟨h1, k, by omega, h2⟩
     · exact ⟨h1, n, by omega, b, hb, h2⟩
   · rintro ⟨h1, k, hk, b, hb, h2⟩
     by_cases e : k = n
     · subst e
       exact .inr ⟨h1, b, hb, h2⟩
     · exact .inl ⟨h1, k, by omega, b, hb, h2⟩
theorem soon_in {w h : Nat} {bs : List Box} {vx vy : Int} : InF w h (soon w h bs vx vy) := soonN_in 6
theorem soon_has {w h : Nat} {bs : List Box} {vx vy x y : Int} : hasP w h (soon w h bs vx vy) x y = true ↔ inFld w h x y = true ∧ SoonAt bs vx vy x y := soonN_has 6
theorem everN_in {w h S : Nat} {vx vy : Int} (hS : InF w h S) : ∀ n, InF w h (everN w h S vx vy n)
 | 0 => hS
 | n + 1 => hS.or (before_in _ _ _ _ _)
theorem everN_has {w h S : Nat} {vx vy : Int} (hS : InF w h S) (h1 : -3 ≤ vx) (h2 : vx ≤ 3) : ∀ (n : Nat) (x y : Int), hasP w h (everN w h S vx vy n) x y = true ↔
   ∃ j : Nat, j ≤ n ∧ (∀ i : Nat, i ≤ j → inFld w h (x + i * vx) (y + i * vy) = true) ∧ hasP w h S (x + j * vx) (y + j * vy) = true
 | 0, x, y => by
   show hasP w h S x y = true ↔ _
   have z : ∀ a b : Int, a + ((0 : Nat) : Int) * b = a := fun a b => by simp
   constructor
   · intro q
     refine ⟨0, Nat.le_refl _, fun i hi => ?_, by rw [z, z]; exact q⟩
     obtain rfl : i = 0 := by omega
     rw [z, z]
     by_cases hf : 0 ≤ x ∧ x < w ∧ 0 ≤ y ∧ y < h
     · exact inFld_in hf
     · rw [hasP_out hf] at q
       cases q
   · rintro ⟨j, hj, _, q⟩
     obtain rfl : j = 0 := by omega
     rw [z, z] at q
     exact q
 | n + 1, x, y => by
   show hasP w h (S ||| before w h (everN w h S vx vy n) vx vy) x y = true ↔ _
   have z : ∀ a b : Int, a + ((0 : Nat) : Int) * b = a := fun a b => by simp
   have sc : ∀ (a b : Int) (i : Nat), a + b + (i : Int) * b = a + ((i + 1 : Nat) : Int) * b := fun a b i => by
     rw [Int.natCast_add, Int.add_mul]
     simp only [Int.natCast_one, Int.one_mul]
     omega
   rw [hasP_or, Bool.or_eq_true, before_has (everN_in hS n) h1 h2, Bool.and_eq_true, everN_has hS h1 h2 n]
   constructor
   · rintro (q | ⟨q1, j, hj, q2, q3⟩)
     · refine ⟨0, by omega, fun i hi => ?_, by rw [z, z]; exact q⟩
       obtain rfl : i = 0 := by omega
       rw [z, z]
       by_cases hf : 0 ≤ x ∧ x < w ∧ 0 ≤ y ∧ y < h
       · exact inFld_in hf
       · rw [hasP_out hf] at q
         cases q
     · refine ⟨j + 1, by omega, fun i hi => ?_, by rw [← sc, ← sc]; exact q3⟩
       cases i with
       | zero => rw [z, z]; exact q1
       | succ i => rw [← sc, ← sc]; exact q2 i (by omega)
   · rintro ⟨j, hj, q2, q3⟩
     cases j with
     | zero =>
       rw [z, z] at q3
       exact .inl q3
     | succ j =>
       refine .inr ⟨by have := q2 0 (by omega); rw [z, z] at this; exact this, j, by omega, fun i hi => ?_, by rw [sc, sc]; exact q3⟩
       rw [sc, sc]
       exact q2 (i + 1) (by omega)
structure BoxIn (w h : Nat) (b : Box) : Prop where
 x0 : 0 ≤ b.x1
 xx : b.x1 ≤ b.x2
 xw : b.x2 < w
 y0 : 0 ≤ b.y1
 yy : b.y1 ≤ b.y2
 yh : b.y2 < h
theorem way_in {lo hi x v : Int} {w N i : Nat} (h1 : -3 ≤ v) (h2 : v ≤ 3) (hx : 0 ≤ x) (hw : x < w) (h0 : 0 ≤ lo) (hh : hi < w) (t1 : lo * 6 ≤ x * 6 + N * v) (t2 : x * 6 + N * v ≤ hi * 6) (hi6 : 6 * i ≤ N) : 0 ≤ x + i * v ∧ x + i * v < w := by
 rcases cases7 h1 h2 with rfl | rfl | rfl | rfl | rfl | rfl | rfl <;> omega
theorem shift_touch {b : Box} {x y vx vy : Int} {j k : Nat} : touches b ⟨x + j * vx, y + j * vy, vx, vy⟩ k 6 ↔ touches b ⟨x, y, vx, vy⟩ (6 * j + k) 6 := by
 have e : ∀ a v : Int, (a + (j : Int) * v) * ((6 : Nat) : Int) + (k : Int) * v = a * ((6 : Nat) : Int) + ((6 * j + k : Nat) : Int) * v := fun a v => by
   rw [Int.natCast_add, Int.natCast_mul, Int.add_mul, Int.add_mul, Int.mul_right_comm, Int.mul_assoc ((6 : Nat) : Int)]
   rw [Int.mul_comm ((j : Int) * ((6 : Nat) : Int)) v, Int.mul_comm ((j : Int)) ((6 : Nat) : Int), Int.mul_comm v, Int.mul_assoc]
   omega
 show (_ ∧ _ ∧ _ ∧ _) ↔ (_ ∧ _ ∧ _ ∧ _)
 dsimp only
 rw [e, e]
theorem ever_iff {w h : Nat} {bs : List Box} {x y vx vy : Int} (hs : Slow ⟨x, y, vx, vy⟩) (hf : 0 ≤ x ∧ x < w ∧ 0 ≤ y ∧ y < h) (hb : ∀ b ∈ bs, BoxIn w h b) :
   hasP w h (ever w h (soon w h bs vx vy) vx vy) x y = true ↔ ∃ b ∈ bs, ∃ N : Nat, touches b ⟨x, y, vx, vy⟩ N 6 := by
 unfold ever
 rw [everN_has soon_in hs.a hs.b]
 constructor
 · rintro ⟨j, _, _, q⟩
   obtain ⟨_, k, _, b, hbm, t⟩ := soon_has.mp q
   exact ⟨b, hbm, 6 * j + k, shift_touch.mp t⟩
 · rintro ⟨b, hbm, n, t⟩
   obtain ⟨N, tN, _, hc⟩ := first_touch hs (by decide) t
   have B := hb b hbm
   have ⟨t1, t2, t3, t4⟩ := tN
   have t1 : b.x1 * 6 ≤ x * 6 + N * vx := t1
   have t2 : x * 6 + N * vx ≤ b.x2 * 6 := t2
   have t3 : b.y1 * 6 ≤ y * 6 + N * vy := t3
   have t4 : y * 6 + N * vy ≤ b.y2 * 6 := t4
   have inn : ∀ i : Nat, 6 * i ≤ N → inFld w h (x + i * vx) (y + i * vy) = true := fun i hi => by
     have a1 := way_in hs.a hs.b hf.1 hf.2.1 B.x0 B.xw t1 t2 hi
     have a2 := way_in hs.c hs.d hf.2.2.1 hf.2.2.2 B.y0 B.yh t3 t4 hi
     exact inFld_in ⟨a1.1, a1.2, a2.1, a2.2⟩
   have eN : 6 * (N / 6) + N % 6 = N := Nat.div_add_mod N 6
   refine ⟨N / 6, ?_, fun i hi => inn i (by omega), soon_has.mpr ⟨inn (N / 6) (by omega), N % 6, Nat.mod_lt _ (by decide), b, hbm, ?_⟩⟩
   · -- it's there soon enough
     have bd : ∀ (lo hi x v : Int) (w : Nat), -3 ≤ v → v ≤ 3 → 0 ≤ x → x < w → 0 ≤ lo → hi < w → lo * 6 ≤ x * 6 + N * v → x * 6 + N * v ≤ hi * 6 → 0 < N → (N : Int) = ent lo hi x v → N / 6 ≤ w := by
       intro lo hi x v w h1 h2 hx hw h0 hh q1 q2 hN e
       have nz : v ≠ 0 := by
         rintro rfl
         have e : (N : Int) = 0 := e
         omega
       rcases cases7 h1 h2 with rfl | rfl | rfl | rfl | rfl | rfl | rfl <;> omega
     by_cases h0 : N = 0
     · subst h0
       exact Nat.zero_le _
     · rcases hc with hc | hc | hc
       · exact absurd hc h0
       · exact Nat.le_trans (bd _ _ _ _ w hs.a hs.b hf.1 hf.2.1 B.x0 B.xw t1 t2 (by omega) hc) (Nat.le_max_left _ _)
       · exact Nat.le_trans (bd _ _ _ _ h hs.c hs.d hf.2.2.1 hf.2.2.2 B.y0 B.yh t3 t4 (by omega) hc) (Nat.le_max_right _ _)
   · rw [shift_touch, eN]
     exact tN
theorem latN_in {w h S p : Nat} {vx vy : Int} (hp : InF w h p) : ∀ n, InF w h (latN w h S p vx vy n)
 | 0 => hp
 | n + 1 => InF.dif (before_in _ _ _ _ _)
theorem comN_in {w h S p : Nat} {vx vy : Int} (hp : InF w h p) : ∀ n, InF w h (comN w h S p vx vy n)
 | 0 => InF.zero w h
 | n + 1 => (comN_in hp n).or (latN_in hp n)
theorem comN_has {w h S p : Nat} {vx vy x y : Int} : ∀ n, hasP w h (comN w h S p vx vy n) x y = true ↔ ∃ i : Nat, i < n ∧ hasP w h (latN w h S p vx vy i) x y = true
 | 0 => by
   show hasP w h 0 x y = true ↔ _
   rw [hasP_zero]
   simp
 | n + 1 => by
   show hasP w h (comN w h S p vx vy n ||| latN w h S p vx vy n) x y = true ↔ _
   rw [hasP_or, Bool.or_eq_true, comN_has n]
   constructor
   · rintro (⟨i, hi, q⟩ | q)
     · exact ⟨i, by omega, q⟩
     · exact ⟨n, by omega, q⟩
   · rintro ⟨i, hi, q⟩
     by_cases e : i = n
     · subst e
       exact .inr q
     · exact .inl ⟨i, by omega, q⟩
theorem latN_has {w h S : Nat} {vx vy px py : Int} (h1 : -3 ≤ vx) (h2 : vx ≤ 3) (hp : 0 ≤ px ∧ px < w ∧ 0 ≤ py ∧ py < h) : ∀ (n : Nat) (x y : Int), hasP w h (latN w h S (placeB w px.toNat py.toNat) vx vy n) x y = true ↔
   x + n * vx = px ∧ y + n * vy = py ∧ ∀ i : Nat, i < n → inFld w h (x + i * vx) (y + i * vy) = true ∧ hasP w h S (x + i * vx) (y + i * vy) = false
 | 0, x, y => by
   show hasP w h (placeB w px.toNat py.toNat) x y = true ↔ _
   rw [place_has hp, Bool.and_eq_true, decide_eq_true_eq, decide_eq_true_eq]
   simp
 | n + 1, x, y => by
   show hasP w h (dif (before w h (latN w h S _ vx vy n) vx vy) S) x y = true ↔ _
   have z : ∀ a b : Int, a + ((0 : Nat) : Int) * b = a := fun a b => by simp
   have sc : ∀ (a b : Int) (i : Nat), a + b + (i : Int) * b = a + ((i + 1 : Nat) : Int) * b := fun a b i => by
     rw [Int.natCast_add, Int.add_mul]
     simp only [Int.natCast_one, Int.one_mul]
     omega
   rw [hasP_dif, Bool.and_eq_true, before_has (latN_in (place_in (by omega) (by omega)) n) h1 h2, Bool.and_eq_true, latN_has h1 h2 hp n, sc, sc]
   constructor
   · rintro ⟨⟨q1, q2, q3, q4⟩, q5⟩
     refine ⟨q2, q3, fun i hi => ?_⟩
     cases i with
     | zero =>
       rw [z, z]
       refine ⟨q1, ?_⟩
       cases e : hasP w h S x y with
       | false => rfl
       | true => rw [e] at q5; cases q5
     | succ i =>
       have := q4 i (by omega)
       rw [sc, sc] at this
       exact this
   · rintro ⟨q2, q3, q4⟩
     have q0 := q4 0 (by omega)
     rw [z, z] at q0
     refine ⟨⟨q0.1, q2, q3, fun i hi => ?_⟩, by rw [q0.2]; rfl⟩
     rw [sc, sc]
     exact q4 (i + 1) (by omega)
end SP
namespace SP
open Sr39 (Box Thing touches Ever)
open Sr40 (Map_ State Burn dx dy)
open Sr41Neutral (axisAt moments hits ticksTo harmlessB)
theorem before_zero {w h : Nat} {vx vy : Int} : before w h 0 vx vy = 0 := by
 unfold before
 dsimp only
 split
 · rw [Nat.zero_shiftRight, Nat.zero_and]
 · rw [Nat.zero_shiftLeft, Nat.zero_and]
theorem dif_zero {b : Nat} : dif 0 b = 0 := by
 unfold dif
 rw [Nat.zero_and]
 rfl
theorem lat_zero {w h S p : Nat} {vx vy : Int} {n : Nat} (z : latN w h S p vx vy n = 0) : ∀ k, latN w h S p vx vy (n + k) = 0
 | 0 => z
 | k + 1 => by
   show dif (before w h (latN w h S p vx vy (n + k)) vx vy) S = 0
   rw [lat_zero z k, before_zero, dif_zero]
theorem com_stop {w h S p : Nat} {vx vy : Int} {n : Nat} (z : latN w h S p vx vy n = 0) : ∀ k, comN w h S p vx vy (n + k) = comN w h S p vx vy n
 | 0 => rfl
 | k + 1 => by
   show comN w h S p vx vy (n + k) ||| latN w h S p vx vy (n + k) = _
   rw [lat_zero z k, Nat.or_zero, com_stop z k]
structure GoodM (m : Map_) : Prop where
 w1 : 1 ≤ m.w
 w2 : m.w ≤ 32
 h1 : 1 ≤ m.h
 h2 : m.h ≤ 32
 b1 : 1 ≤ m.boxes.length
 b8 : m.boxes.length ≤ 8
 box : ∀ b ∈ m.boxes, BoxIn m.w m.h b
 dir : m.dir ≤ 3
 none_ : m.none_ = [0, 0]
 port : m.boxes.any (Sr40.inBox m.px m.py) = true
 pre : m.inField (m.px - dx m.dir) (m.py - dy m.dir) = true
 free : m.boxes.any (Sr40.inBox (m.px - dx m.dir) (m.py - dy m.dir)) = false
theorem inField_eq {m : Map_} {x y : Int} : m.inField x y = inFld m.w m.h x y := rfl
theorem good_of {m : Map_} (h : Sr40.good m = true) : GoodM m := by
 unfold Sr40.good Sr40.okSize Map_.okBox at h
 simp only [Bool.and_eq_true, decide_eq_true_eq, List.all_eq_true, beq_iff_eq, Bool.not_eq_true', inField_eq, inFld_iff] at h
 obtain ⟨⟨⟨⟨⟨⟨⟨⟨⟨⟨a1, a2⟩, a3, a4⟩, a5⟩, a6⟩, a7⟩, a8⟩, a9⟩, a10⟩, a11⟩, a12⟩ := h
 refine ⟨a1, a2, a3, a4, a5, a6, fun b hb => ?_, a8, a9, a10, ?_, a12⟩
 · obtain ⟨⟨⟨c1, c2⟩, c3⟩, c4⟩ := a7 b hb
   exact ⟨by omega, c1, by omega, by omega, c2, by omega⟩
 · rw [inField_eq, inFld_iff]
   exact a11
theorem GoodM.port_in {m : Map_} (g : GoodM m) : 0 ≤ (m.px : Int) ∧ (m.px : Int) < m.w ∧ 0 ≤ (m.py : Int) ∧ (m.py : Int) < m.h := by
 obtain ⟨b, hb, q⟩ := List.any_eq_true.mp g.port
 unfold Sr40.inBox at q
 simp only [Bool.and_eq_true, decide_eq_true_eq] at q
 have B := g.box b hb
 have := B.xw
 have := B.yh
 omega
theorem unit_of {k : Nat} (h : k ≤ 3) : (dx k = 1 ∧ dy k = 0) ∨ (dx k = 0 ∧ dy k = 1) ∨ (dx k = -1 ∧ dy k = 0) ∨ (dx k = 0 ∧ dy k = -1) := by
 match k, h with
 | 0, _ => exact .inl ⟨rfl, rfl⟩
 | 1, _ => exact .inr (.inl ⟨rfl, rfl⟩)
 | 2, _ => exact .inr (.inr (.inl ⟨rfl, rfl⟩))
 | 3, _ => exact .inr (.inr (.inr ⟨rfl, rfl⟩))
def portB (m : Map_) : Nat := placeB m.w m.px m.py
theorem portB_eq (m : Map_) : portB m = placeB m.w (m.px : Int).toNat (m.py : Int).toNat := by
 unfold portB
 rw [Int.toNat_natCast, Int.toNat_natCast]
def harm (m : Map_) (vx vy : Int) : Nat :=
 let S := soon m.w m.h m.boxes vx vy
 let T := dif (every m.w m.h) (ever m.w m.h S vx vy)
 if vx = dx m.dir ∧ vy = dy m.dir then T ||| comN m.w m.h S (portB m) vx vy 33 else T
theorem portB_in {m : Map_} (g : GoodM m) : InF m.w m.h (portB m) := by
 have := g.port_in
 exact place_in (by omega) (by omega)
theorem harm_in {m : Map_} (g : GoodM m) {vx vy : Int} : InF m.w m.h (harm m vx vy) := by
 unfold harm
 dsimp only
 split
 · exact (InF.dif (every_in _ _)).or (comN_in (portB_in g) 33)
 · exact InF.dif (every_in _ _)
theorem lat_33 {m : Map_} (g : GoodM m) {S : Nat} : latN m.w m.h S (portB m) (dx m.dir) (dy m.dir) 33 = 0 := by
 refine zero_of (latN_in (portB_in g) 33) fun x y => ?_
 rw [Bool.eq_false_iff]
 intro q
 have u := unit_of g.dir
 have gw := g.w2
 have gh := g.h2
 have gp := g.port_in
 rw [portB_eq, latN_has (by omega) (by omega) gp] at q
 obtain ⟨q1, q2, q3⟩ := q
 obtain ⟨q4, _⟩ := q3 0 (by decide)
 rw [inFld_iff] at q4
 rcases u with ⟨a, b⟩ | ⟨a, b⟩ | ⟨a, b⟩ | ⟨a, b⟩ <;> rw [a, b] at q4 <;> rw [a] at q1 <;> rw [b] at q2 <;> omega
theorem soft_iff {m : Map_} {s : State} : m.soft s = true ↔ s.vx = dx m.dir ∧ s.vy = dy m.dir := by
 unfold Map_.soft
 rw [Bool.and_eq_true, beq_iff_eq, beq_iff_eq]
theorem harm_has {m : Map_} (g : GoodM m) {s : State} (hs : Slow s) (hf : 0 ≤ s.x ∧ s.x < m.w ∧ 0 ≤ s.y ∧ s.y < m.h) : hasP m.w m.h (harm m s.vx s.vy) s.x s.y = harmlessB m s := by
 obtain ⟨x, y, vx, vy⟩ := s
 dsimp only at hf ⊢
 have gp := g.port_in
 -- the first word
 have e1 : hasP m.w m.h (dif (every m.w m.h) (ever m.w m.h (soon m.w m.h m.boxes vx vy) vx vy)) x y = m.boxes.all (fun b => (hits b ⟨x, y, vx, vy⟩).isEmpty) := by
   rw [hasP_dif, every_has, inFld_in hf, Bool.true_and, Bool.eq_iff_iff, Bool.not_eq_true', List.all_eq_true, Bool.eq_false_iff, ne_eq, ever_iff hs hf g.box]
   constructor
   · intro q b hb
     exact (hits_empty hs).mpr fun N t => q ⟨b, hb, N, t⟩
   · rintro q ⟨b, hb, N, t⟩
     exact (hits_empty hs).mp (q b hb) N t
 unfold harm harmlessB
 dsimp only
 rw [← e1]
 split
 · rename_i hv
   obtain ⟨hvx, hvy⟩ := hv
   rw [hasP_or]
   congr 1
   rw [Bool.eq_iff_iff, comN_has]
   simp only [Bool.and_eq_true, decide_eq_true_eq, soft_iff]
   have hT : ∀ i : Int, x + i * vx = m.px → y + i * vy = m.py → ticksTo m ⟨x, y, vx, vy⟩ = i := fun i c1 c2 => by
     unfold ticksTo
     dsimp only
     rcases unit_of g.dir with ⟨a, b⟩ | ⟨a, b⟩ | ⟨a, b⟩ | ⟨a, b⟩ <;> rw [a] at hvx <;> rw [b] at hvy <;> rw [a, b] <;> subst hvx <;> subst hvy <;> omega
   -- a touch ahead of the port, as the sets see it
   have late : ∀ i : Nat, x + i * vx = m.px → y + i * vy = m.py →
       ((∀ j : Nat, j < i → inFld m.w m.h (x + j * vx) (y + j * vy) = true ∧ hasP m.w m.h (soon m.w m.h m.boxes vx vy) (x + j * vx) (y + j * vy) = false) ↔
         (m.boxes.all fun b => (hits b ⟨x, y, vx, vy⟩).all fun c => decide (i * c.2 ≤ c.1)) = true) := fun i c1 c2 => by
     have inn : ∀ j : Nat, j < i → inFld m.w m.h (x + j * vx) (y + j * vy) = true := fun j hj => by
       rw [inFld_iff]
       rcases unit_of g.dir with ⟨a, b⟩ | ⟨a, b⟩ | ⟨a, b⟩ | ⟨a, b⟩ <;> rw [a] at hvx <;> rw [b] at hvy <;> subst hvx <;> subst hvy <;> omega
     rw [List.all_eq_true]
     constructor
     · intro q b hb
       rw [hits_late hs]
       intro N t
       by_cases hlt : N < 6 * i
       · exfalso
         have hj : N / 6 < i := by omega
         have hq := (q _ hj).2
         rw [Bool.eq_false_iff] at hq
         refine hq (soon_has.mpr ⟨inn _ hj, N % 6, Nat.mod_lt _ (by decide), b, hb, ?_⟩)
         rw [shift_touch, Nat.div_add_mod]
         exact t
       · omega
     · intro q j hj
       refine ⟨inn j hj, ?_⟩
       rw [Bool.eq_false_iff]
       intro hq
       obtain ⟨_, k, hk, b, hb, t⟩ := soon_has.mp hq
       have := (hits_late hs).mp (q b hb) _ (shift_touch.mp t)
       omega
   constructor
   · rintro ⟨i, _, q⟩
     rw [portB_eq, latN_has hs.a hs.b gp] at q
     obtain ⟨c1, c2, c3⟩ := q
     have et := hT i c1 c2
     rw [et]
     refine ⟨⟨hvx, hvy⟩, Int.natCast_nonneg _, c1, c2, ?_⟩
     rw [Int.toNat_natCast]
     exact (late i c1 c2).mp c3
   · rintro ⟨_, c0, c1, c2, c3⟩
     generalize ticksTo m ⟨x, y, vx, vy⟩ = t at *
     obtain ⟨i, rfl⟩ : ∃ i : Nat, t = i := ⟨t.toNat, (Int.toNat_of_nonneg c0).symm⟩
     rw [Int.toNat_natCast] at c3
     have hi : i < 33 := by
       have gw := g.w2
       have gh := g.h2
       rcases unit_of g.dir with ⟨a, b⟩ | ⟨a, b⟩ | ⟨a, b⟩ | ⟨a, b⟩ <;> rw [a] at hvx <;> rw [b] at hvy <;> subst hvx <;> subst hvy <;> omega
     refine ⟨i, hi, ?_⟩
     rw [portB_eq, latN_has hs.a hs.b gp]
     exact ⟨c1, c2, (late i c1 c2).mpr c3⟩
 · rename_i hv
   have : m.soft ⟨x, y, vx, vy⟩ = false := by
     rw [Bool.eq_false_iff]
     intro e
     exact hv (soft_iff.mp e)
   rw [this, Bool.false_and, Bool.or_false]
end SP
namespace SP
open Sr39 (Box Thing touches Ever)
open Sr40 (Map_ State Burn dx dy okBurn okSpeed one)
open Sr41Neutral (harmlessB outs burns freeB stateAt index build at_ frees free look bitsOf byB first next level lookA firstA nextA levelA find sureIn awayIn lessB chooseOf)
def BUR : List Burn := [⟨0, 0⟩, ⟨-1, 0⟩, ⟨0, -1⟩, ⟨0, 1⟩, ⟨1, 0⟩, ⟨-1, -1⟩, ⟨-1, 1⟩, ⟨1, -1⟩, ⟨1, 1⟩]
def isSp (vx vy : Int) : Bool := (decide (-3 ≤ vx) && decide (vx ≤ 3)) && (decide (-3 ≤ vy) && decide (vy ≤ 3))
def burnsAt (vx vy : Int) : List Burn := BUR.filter fun b => isSp (vx + b.a) (vy + b.b)
def lessT (b : Burn) : List Burn := BUR.filter fun c => !decide (c = b) && ((decide (c.a = 0) || decide (c.a = b.a)) && (decide (c.b = 0) || decide (c.b = b.b)))
theorem mem_BUR {b : Burn} : b ∈ BUR ↔ b ∈ burns := by
 constructor
 · intro h
   have : ∀ b ∈ BUR, b ∈ burns := by decide
   exact this b h
 · intro h
   have : ∀ b ∈ burns, b ∈ BUR := by decide
   exact this b h
theorem one_of {b : Burn} (h : b ∈ BUR) : one b.a = true ∧ one b.b = true := by
 have : ∀ b ∈ BUR, one b.a = true ∧ one b.b = true := by decide
 exact this b h
theorem lessT_outs {b : Burn} (h : b ∈ BUR) {c : Burn} : c ∈ lessT b ↔ c ∈ outs b ∧ c ≠ b := by
 constructor
 · have : ∀ b ∈ BUR, ∀ c ∈ lessT b, c ∈ outs b ∧ c ≠ b := by decide
   exact this b h c
 · have : ∀ b ∈ BUR, ∀ c ∈ outs b, c ≠ b → c ∈ lessT b := by decide
   rintro ⟨h1, h2⟩
   exact this b h c h1 h2
theorem self_outs {b : Burn} : b ∈ outs b := by unfold outs; simp
theorem okBurn_iff {s : State} {b : Burn} (h : b ∈ BUR) : okBurn s b = isSp (s.vx + b.a) (s.vy + b.b) := by
 unfold okBurn isSp okSpeed Sr40.SPEED
 rw [(one_of h).1, (one_of h).2]
 simp only [Bool.true_and]
theorem outs_slow {vx vy : Int} {b c : Burn} (hs : isSp vx vy = true) (hb : isSp (vx + b.a) (vy + b.b) = true) (hc : c ∈ outs b) : isSp (vx + c.a) (vy + c.b) = true := by
 unfold isSp at *
 simp only [Bool.and_eq_true, decide_eq_true_eq] at *
 unfold outs at hc
 simp only [List.mem_cons, List.not_mem_nil, or_false] at hc
 rcases hc with rfl | rfl | rfl | rfl <;> dsimp only <;> omega
theorem slow_of {s : State} (h : isSp s.vx s.vy = true) : Slow s := by
 unfold isSp at h
 simp only [Bool.and_eq_true, decide_eq_true_eq] at h
 exact ⟨h.1.1, h.1.2, h.2.1, h.2.2⟩
theorem sp_of {s : State} (h : Slow s) : isSp s.vx s.vy = true := by
 unfold isSp
 simp only [Bool.and_eq_true, decide_eq_true_eq]
 exact ⟨⟨h.a, h.b⟩, h.c, h.d⟩
def opB (c : Bool) (b : Burn) : List Burn := if c then [b] else []
theorem choose_first (p : Burn → Bool) : chooseOf (burns.filter p) = (BUR.filter p).head? := by
 have key : ∀ b0 b1 b2 b3 b4 b5 b6 b7 b8 : Bool, chooseOf (opB b0 ⟨-1, -1⟩ ++ (opB b1 ⟨-1, 0⟩ ++ (opB b2 ⟨-1, 1⟩ ++ (opB b3 ⟨0, -1⟩ ++ (opB b4 ⟨0, 0⟩ ++ (opB b5 ⟨0, 1⟩ ++ (opB b6 ⟨1, -1⟩ ++ (opB b7 ⟨1, 0⟩ ++ (opB b8 ⟨1, 1⟩ ++ []))))))))) = ((opB b4 ⟨0, 0⟩ ++ (opB b1 ⟨-1, 0⟩ ++ (opB b3 ⟨0, -1⟩ ++ (opB b5 ⟨0, 1⟩ ++ (opB b7 ⟨1, 0⟩ ++ (opB b0 ⟨-1, -1⟩ ++ (opB b2 ⟨-1, 1⟩ ++ (opB b6 ⟨1, -1⟩ ++ (opB b8 ⟨1, 1⟩ ++ [])))))))))).head? := by decide +kernel
 have f1 : ∀ (a : Burn) (l : List Burn), (a :: l).filter p = opB (p a) a ++ l.filter p := fun a l => by
   rw [List.filter_cons]
   cases p a <;> rfl
 have := key (p ⟨-1, -1⟩) (p ⟨-1, 0⟩) (p ⟨-1, 1⟩) (p ⟨0, -1⟩) (p ⟨0, 0⟩) (p ⟨0, 1⟩) (p ⟨1, -1⟩) (p ⟨1, 0⟩) (p ⟨1, 1⟩)
 unfold burns BUR
 simp only [f1, List.filter_nil]
 exact this
def numV (vx vy : Int) : Nat := (7 * (vx + 3) + vy + 3).toNat
def vxOf (k : Nat) : Int := ((k / 7 : Nat) : Int) - 3
def vyOf (k : Nat) : Int := ((k % 7 : Nat) : Int) - 3
theorem numV_lt {vx vy : Int} (h : isSp vx vy = true) : numV vx vy < 49 := by
 unfold isSp at h
 simp only [Bool.and_eq_true, decide_eq_true_eq] at h
 unfold numV
 omega
theorem vx_num {vx vy : Int} (h : isSp vx vy = true) : vxOf (numV vx vy) = vx ∧ vyOf (numV vx vy) = vy := by
 unfold isSp at h
 simp only [Bool.and_eq_true, decide_eq_true_eq] at h
 unfold vxOf vyOf numV
 omega
theorem num_vx {k : Nat} (h : k < 49) : isSp (vxOf k) (vyOf k) = true ∧ numV (vxOf k) (vyOf k) = k := by
 unfold isSp vxOf vyOf numV
 simp only [Bool.and_eq_true, decide_eq_true_eq]
 omega
def harmF (m : Map_) (k : Nat) : Nat := harm m (vxOf k) (vyOf k)
def thereF (m : Map_) (k : Nat) : Nat := if k = numV (dx m.dir) (dy m.dir) then portB m else 0
def onF (m : Map_) (f : Nat → Nat) (k : Nat) : Nat := harmF m k &&& before m.w m.h (f k) (vxOf k) (vyOf k)
def goodF (T M : Nat → Nat) (vx vy : Int) (b : Burn) : Nat := (lessT b).foldl (fun g c => g &&& M (numV (vx + c.a) (vy + c.b))) (T (numV (vx + b.a) (vy + b.b)))
def burnF (T M : Nat → Nat) (k : Nat) : Nat := (burnsAt (vxOf k) (vyOf k)).foldl (fun p b => p ||| goodF T M (vxOf k) (vyOf k) b) 0
def levF (m : Map_) : Nat → Nat → Nat → Nat
 | 0, _, k => thereF m k
 | n + 1, g, k => thereF m k ||| burnF (onF m (levF m n g)) (if g = 0 then harmF m else onF m (levF m n (g - 1))) k
def awayOn (m : Map_) (f : Nat → Nat) (k : Nat) : Nat := dif (harmF m k) (before m.w m.h (dif (every m.w m.h) (f k)) (vxOf k) (vyOf k))
def awF (m : Map_) : Nat → Nat → Nat
 | 0, _ => 0
 | n + 1, k => dif (burnF (awayOn m (awF m n)) (harmF m) k) (thereF m k)
theorem thereF_in {m : Map_} (g : GoodM m) (k : Nat) : InF m.w m.h (thereF m k) := by
 unfold thereF
 split
 · exact portB_in g
 · exact InF.zero _ _
theorem goodF_in {w h : Nat} {T M : Nat → Nat} {vx vy : Int} {b : Burn} (hT : ∀ k, InF w h (T k)) : InF w h (goodF T M vx vy b) := by
 unfold goodF
 generalize lessT b = l
 have : ∀ (l : List Burn) (a : Nat), InF w h a → InF w h (l.foldl (fun g c => g &&& M (numV (vx + c.a) (vy + c.b))) a) := by
   intro l
   induction l with
   | nil => exact fun a ha => ha
   | cons c r ih => exact fun a ha => ih _ ha.and_left
 exact this l _ (hT _)
theorem burnF_in {w h : Nat} {T M : Nat → Nat} (hT : ∀ k, InF w h (T k)) (k : Nat) : InF w h (burnF T M k) := by
 unfold burnF
 generalize burnsAt (vxOf k) (vyOf k) = l
 have : ∀ (l : List Burn) (a : Nat), InF w h a → InF w h (l.foldl (fun p b => p ||| goodF T M (vxOf k) (vyOf k) b) a) := by
   intro l
   induction l with
   | nil => exact fun a ha => ha
   | cons c r ih => exact fun a ha => ih _ (ha.or (goodF_in hT))
 exact this l _ (InF.zero _ _)
theorem harmF_in {m : Map_} (g : GoodM m) (k : Nat) : InF m.w m.h (harmF m k) := harm_in g
theorem onF_in {m : Map_} (g : GoodM m) (f : Nat → Nat) (k : Nat) : InF m.w m.h (onF m f k) := (harmF_in g k).and_left
theorem awayOn_in {m : Map_} (g : GoodM m) (f : Nat → Nat) (k : Nat) : InF m.w m.h (awayOn m f k) := InF.dif (harmF_in g k)
theorem levF_in {m : Map_} (g : GoodM m) : ∀ (n c k : Nat), InF m.w m.h (levF m n c k)
 | 0, _, k => thereF_in g k
 | n + 1, c, k => (thereF_in g k).or (burnF_in (onF_in g _) k)
theorem awF_in {m : Map_} (g : GoodM m) : ∀ (n k : Nat), InF m.w m.h (awF m n k)
 | 0, _ => InF.zero _ _
 | n + 1, k => InF.dif (burnF_in (awayOn_in g _) k)
def hasS (m : Map_) (f : Nat → Nat) (s : State) : Bool := hasP m.w m.h (f (numV s.vx s.vy)) s.x s.y
theorem hasP_fold_and {w h : Nat} {x y : Int} {M : Burn → Nat} : ∀ (l : List Burn) (a : Nat), hasP w h (l.foldl (fun g c => g &&& M c) a) x y = true ↔ hasP w h a x y = true ∧ ∀ c ∈ l, hasP w h (M c) x y = true
 | [], a => by simp
 | c :: r, a => by
   show hasP w h (r.foldl _ _) x y = true ↔ _
   rw [hasP_fold_and r, hasP_and, Bool.and_eq_true]
   simp only [List.mem_cons]
   constructor
   · rintro ⟨⟨h1, h2⟩, h3⟩
     exact ⟨h1, fun d hd => hd.elim (fun e => e ▸ h2) (h3 d)⟩
   · rintro ⟨h1, h2⟩
     exact ⟨⟨h1, h2 c (.inl rfl)⟩, fun d hd => h2 d (.inr hd)⟩
theorem hasP_fold_or {w h : Nat} {x y : Int} {M : Burn → Nat} : ∀ (l : List Burn) (a : Nat), hasP w h (l.foldl (fun g c => g ||| M c) a) x y = true ↔ hasP w h a x y = true ∨ ∃ c ∈ l, hasP w h (M c) x y = true
 | [], a => by simp
 | c :: r, a => by
   show hasP w h (r.foldl _ _) x y = true ↔ _
   rw [hasP_fold_or r, hasP_or, Bool.or_eq_true]
   simp only [List.mem_cons]
   constructor
   · rintro ((h1 | h2) | ⟨d, hd, h3⟩)
     · exact .inl h1
     · exact .inr ⟨c, .inl rfl, h2⟩
     · exact .inr ⟨d, .inr hd, h3⟩
   · rintro (h1 | ⟨d, (rfl | hd), h2⟩)
     · exact .inl (.inl h1)
     · exact .inl (.inr h2)
     · exact .inr ⟨d, hd, h2⟩
abbrev wi (s : State) (o : Burn) : State := Sr40.State.with_ s o
abbrev af (s : State) (o : Burn) : State := Sr40.State.after s o
theorem burnF_has {m : Map_} {T M : Nat → Nat} {s : State} (hs : Slow s) : hasS m (burnF T M) s = true ↔ ∃ b ∈ BUR, isSp (s.vx + b.a) (s.vy + b.b) = true ∧ hasS m T (wi s b) = true ∧ ∀ c ∈ lessT b, hasS m M (wi s c) = true := by
 unfold hasS burnF
 obtain ⟨e1, e2⟩ := vx_num (sp_of hs)
 rw [e1, e2]
 rw [hasP_fold_or, hasP_zero]
 simp only [Bool.false_eq_true, false_or]
 unfold burnsAt
 constructor
 · rintro ⟨b, hb, q⟩
   obtain ⟨h1, h2⟩ := List.mem_filter.mp hb
   unfold goodF at q
   rw [hasP_fold_and (M := fun c => M (numV (s.vx + c.a) (s.vy + c.b)))] at q
   exact ⟨b, h1, h2, q.1, q.2⟩
 · rintro ⟨b, h1, h2, q1, q2⟩
   refine ⟨b, List.mem_filter.mpr ⟨h1, h2⟩, ?_⟩
   unfold goodF
   rw [hasP_fold_and (M := fun c => M (numV (s.vx + c.a) (s.vy + c.b)))]
   exact ⟨q1, q2⟩
abbrev InFd (m : Map_) (s : State) : Prop := 0 ≤ s.x ∧ s.x < m.w ∧ 0 ≤ s.y ∧ s.y < m.h
theorem hasS_out {m : Map_} {f : Nat → Nat} {s : State} (h : ¬ InFd m s) : hasS m f s = false := hasP_out h
theorem harmF_has {m : Map_} (g : GoodM m) {s : State} (hs : Slow s) (hf : InFd m s) : hasS m (harmF m) s = harmlessB m s := by
 unfold hasS harmF
 obtain ⟨e1, e2⟩ := vx_num (sp_of hs)
 rw [e1, e2]
 exact harm_has g hs hf
theorem onF_has {m : Map_} (g : GoodM m) {f : Nat → Nat} (hfi : ∀ k, InF m.w m.h (f k)) {s : State} (hs : Slow s) (hf : InFd m s) : hasS m (onF m f) s = (harmlessB m s && hasS m f (Sr40.State.on s)) := by
 rw [← harmF_has g hs hf]
 unfold hasS onF
 obtain ⟨e1, e2⟩ := vx_num (sp_of hs)
 rw [hasP_and, e1, e2, before_has (hfi _) hs.a hs.b, inFld_in hf, Bool.true_and]
 rfl
theorem awayOn_has {m : Map_} (g : GoodM m) {f : Nat → Nat} (hfi : ∀ k, InF m.w m.h (f k)) {s : State} (hs : Slow s) (hf : InFd m s) : hasS m (awayOn m f) s = (harmlessB m s && (!(m.inField (Sr40.State.on s).x (Sr40.State.on s).y) || hasS m f (Sr40.State.on s))) := by
 rw [← harmF_has g hs hf]
 unfold hasS awayOn
 obtain ⟨e1, e2⟩ := vx_num (sp_of hs)
 rw [hasP_dif, e1, e2, before_has (InF.dif (every_in _ _)) hs.a hs.b, inFld_in hf, Bool.true_and, hasP_dif, every_has, inField_eq]
 show _ = (hasP m.w m.h (harmF m (numV s.vx s.vy)) s.x s.y && (!inFld m.w m.h (s.x + s.vx) (s.y + s.vy) || hasP m.w m.h (f (numV s.vx s.vy)) (s.x + s.vx) (s.y + s.vy)))
 cases inFld m.w m.h (s.x + s.vx) (s.y + s.vy) <;> cases hasP m.w m.h (f (numV s.vx s.vy)) (s.x + s.vx) (s.y + s.vy) <;> rfl
theorem there_eq {m : Map_} {s : State} : m.there s = true ↔ (s.vx = dx m.dir ∧ s.vy = dy m.dir) ∧ s.x = m.px ∧ s.y = m.py := by
 unfold Map_.there
 rw [Bool.and_eq_true, Bool.and_eq_true, soft_iff, beq_iff_eq, beq_iff_eq]
 exact ⟨fun ⟨⟨a, b⟩, c⟩ => ⟨a, b, c⟩, fun ⟨a, b, c⟩ => ⟨⟨a, b⟩, c⟩⟩
theorem dir_sp {m : Map_} (g : GoodM m) : isSp (dx m.dir) (dy m.dir) = true := by
 unfold isSp
 simp only [Bool.and_eq_true, decide_eq_true_eq]
 rcases unit_of g.dir with ⟨a, b⟩ | ⟨a, b⟩ | ⟨a, b⟩ | ⟨a, b⟩ <;> rw [a, b] <;> omega
theorem num_inj {vx vy ux uy : Int} (h : isSp vx vy = true) (h' : isSp ux uy = true) (e : numV vx vy = numV ux uy) : vx = ux ∧ vy = uy := by
 have a := vx_num h
 have b := vx_num h'
 rw [e] at a
 exact ⟨a.1.symm.trans b.1, a.2.symm.trans b.2⟩
theorem thereF_has {m : Map_} (g : GoodM m) {s : State} (hs : Slow s) : hasS m (thereF m) s = m.there s := by
 unfold hasS thereF
 rw [Bool.eq_iff_iff, there_eq]
 split
 · rename_i e
   obtain ⟨a, b⟩ := num_inj (sp_of hs) (dir_sp g) e
   rw [portB_eq, place_has g.port_in, Bool.and_eq_true, decide_eq_true_eq, decide_eq_true_eq]
   exact ⟨fun h => ⟨⟨a, b⟩, h⟩, fun h => h.2⟩
 · rename_i e
   rw [hasP_zero]
   constructor
   · intro h
     cases h
   · rintro ⟨⟨a, b⟩, _⟩
     exact absurd (by rw [a, b]) e
end SP
namespace SP
open Sr39 (Box Thing touches Ever)
open Sr40 (Map_ State Burn dx dy okBurn okSpeed one)
open Sr41Neutral (harmlessB outs burns freeB stateAt index build at_ frees free look bitsOf byB first next level lookA firstA nextA levelA find sureIn awayIn lessB chooseOf)
theorem here_iff {m : Map_} {s : State} : m.here s = true ↔ InFd m s ∧ Slow s := by
 unfold Map_.here okSpeed Sr40.SPEED
 rw [Bool.and_eq_true, Bool.and_eq_true, inField_eq, inFld_iff]
 simp only [Bool.and_eq_true, decide_eq_true_eq]
 exact ⟨fun ⟨⟨a, b⟩, c⟩ => ⟨a, b.1, b.2, c.1, c.2⟩, fun ⟨a, b⟩ => ⟨⟨a, b.a, b.b⟩, b.c, b.d⟩⟩
theorem here_out {m : Map_} {s : State} (h : ¬ InFd m s) : m.here s = false := by
 rw [Bool.eq_false_iff]
 intro e
 exact h (here_iff.mp e).1
theorem state_index {m : Map_} (g : GoodM m) {s : State} (hf : InFd m s) (hs : Slow s) : index s < m.w * 32 * 49 ∧ stateAt (index s) = s := by
 obtain ⟨x, y, vx, vy⟩ := s
 obtain ⟨f1, f2, f3, f4⟩ := hf
 obtain ⟨s1, s2, s3, s4⟩ := hs
 dsimp only at *
 have gh := g.h2
 unfold index stateAt
 dsimp only
 have e1 : (((x.toNat * 32 + y.toNat) * 7 + (vx + 3).toNat) * 7 + (vy + 3).toNat) / 49 = x.toNat * 32 + y.toNat := by omega
 refine ⟨by omega, ?_⟩
 rw [e1]
 congr 1 <;> omega
theorem build_at {α : Type} {m : Map_} (g : GoodM m) (f : State → α) {s : State} (hf : InFd m s) (hs : Slow s) : at_ (build m f) s = some (f s) := by
 obtain ⟨h1, h2⟩ := state_index g hf hs
 unfold at_ build
 rw [Array.getElem?_map, Array.getElem?_range, if_pos h1, Option.map_some, h2]
def stp (b : Bool) (n e : Nat) : Nat := if b then n + e else n
theorem bits_of (p : Nat → Bool) {c : Nat} (hc : c < 8) : (bitsOf p).testBit c = p c := by
 have key : ∀ b0 b1 b2 b3 b4 b5 b6 b7 : Bool, (stp b7 (stp b6 (stp b5 (stp b4 (stp b3 (stp b2 (stp b1 (stp b0 0 1) 2) 4) 8) 16) 32) 64) 128).testBit 0 = b0 ∧
     (stp b7 (stp b6 (stp b5 (stp b4 (stp b3 (stp b2 (stp b1 (stp b0 0 1) 2) 4) 8) 16) 32) 64) 128).testBit 1 = b1 ∧ (stp b7 (stp b6 (stp b5 (stp b4 (stp b3 (stp b2 (stp b1 (stp b0 0 1) 2) 4) 8) 16) 32) 64) 128).testBit 2 = b2 ∧
     (stp b7 (stp b6 (stp b5 (stp b4 (stp b3 (stp b2 (stp b1 (stp b0 0 1) 2) 4) 8) 16) 32) 64) 128).testBit 3 = b3 ∧ (stp b7 (stp b6 (stp b5 (stp b4 (stp b3 (stp b2 (stp b1 (stp b0 0 1) 2) 4) 8) 16) 32) 64) 128).testBit 4 = b4 ∧
     (stp b7 (stp b6 (stp b5 (stp b4 (stp b3 (stp b2 (stp b1 (stp b0 0 1) 2) 4) 8) 16) 32) 64) 128).testBit 5 = b5 ∧ (stp b7 (stp b6 (stp b5 (stp b4 (stp b3 (stp b2 (stp b1 (stp b0 0 1) 2) 4) 8) 16) 32) 64) 128).testBit 6 = b6 ∧
     (stp b7 (stp b6 (stp b5 (stp b4 (stp b3 (stp b2 (stp b1 (stp b0 0 1) 2) 4) 8) 16) 32) 64) 128).testBit 7 = b7 := by decide +kernel
 have e : bitsOf p = stp (p 7) (stp (p 6) (stp (p 5) (stp (p 4) (stp (p 3) (stp (p 2) (stp (p 1) (stp (p 0) 0 1) 2) 4) 8) 16) 32) 64) 128 := rfl
 rw [e]
 have k := key (p 0) (p 1) (p 2) (p 3) (p 4) (p 5) (p 6) (p 7)
 match c, hc with
 | 0, _ => exact k.1
 | 1, _ => exact k.2.1
 | 2, _ => exact k.2.2.1
 | 3, _ => exact k.2.2.2.1
 | 4, _ => exact k.2.2.2.2.1
 | 5, _ => exact k.2.2.2.2.2.1
 | 6, _ => exact k.2.2.2.2.2.2.1
 | 7, _ => exact k.2.2.2.2.2.2.2
theorem free_eq {m : Map_} (g : GoodM m) {s : State} (hf : InFd m s) (hs : Slow s) : free (frees m) s = burns.filter (freeB m s) := by
 unfold free frees
 rw [build_at g _ hf hs, here_iff.mpr ⟨hf, hs⟩]
 rfl
theorem look_out {m : Map_} {T : Array Nat} {s : State} {c : Nat} (h : ¬ InFd m s) : look m T s c = false := by
 unfold look
 rw [here_out h, Bool.false_and]
theorem look_first {m : Map_} (g : GoodM m) {s : State} {c : Nat} (hc : c < 8) (hf : InFd m s) (hs : Slow s) : look m (first m) s c = m.there s := by
 unfold look first
 rw [build_at g _ hf hs, here_iff.mpr ⟨hf, hs⟩]
 simp only [if_true, Option.getD_some, Bool.true_and]
 rw [bits_of _ hc]
theorem look_next {m : Map_} (g : GoodM m) {s : State} {c : Nat} {T : Array Nat} (hc : c < 8) (hf : InFd m s) (hs : Slow s) : look m (next m (frees m) T) s c = (m.there s || (burns.filter (freeB m s)).any (byB m T s c)) := by
 unfold look next
 rw [build_at g _ hf hs, here_iff.mpr ⟨hf, hs⟩]
 simp only [if_true, Option.getD_some, Bool.true_and]
 rw [bits_of _ hc, free_eq g hf hs]
theorem freeB_iff {m : Map_} {s : State} {b : Burn} (hb : b ∈ BUR) : freeB m s b = true ↔ isSp (s.vx + b.a) (s.vy + b.b) = true ∧ ∀ o ∈ outs b, harmlessB m (wi s o) = true := by
 unfold freeB
 rw [Bool.and_eq_true, okBurn_iff hb, List.all_eq_true]
theorem byB_iff {m : Map_} {T : Array Nat} {s : State} {c : Nat} {b : Burn} (hb : b ∈ BUR) : byB m T s c b = true ↔ look m T (af s b) c = true ∧ ∀ o ∈ lessT b, c ≠ 0 → look m T (af s o) (c - 1) = true := by
 unfold byB
 rw [Bool.and_eq_true, List.all_eq_true]
 constructor
 · rintro ⟨h1, h2⟩
   refine ⟨h1, fun o ho hc => ?_⟩
   obtain ⟨ho1, ho2⟩ := (lessT_outs hb).mp ho
   have q := h2 o ho1
   rw [decide_eq_false ho2, Bool.false_or, beq_eq_false_iff_ne.mpr hc, Bool.false_or] at q
   exact q
 · rintro ⟨h1, h2⟩
   refine ⟨h1, fun o ho => ?_⟩
   by_cases e : o = b
   · rw [decide_eq_true e, Bool.true_or]
   · rw [decide_eq_false e, Bool.false_or]
     by_cases hc : c = 0
     · rw [hc]
       rfl
     · rw [beq_eq_false_iff_ne.mpr hc, Bool.false_or]
       exact h2 o ((lessT_outs hb).mpr ⟨ho, e⟩) hc
theorem slow_wi {s : State} {o : Burn} (h : isSp (s.vx + o.a) (s.vy + o.b) = true) : Slow (wi s o) := slow_of (s := wi s o) h
theorem slow_af {s : State} {o : Burn} (h : isSp (s.vx + o.a) (s.vy + o.b) = true) : Slow (af s o) := slow_of (s := af s o) h
theorem step_iff {m : Map_} (g : GoodM m) {A B : Nat → Nat} {LA LB : State → Bool} {s : State} {z : Bool} (hA : ∀ k, InF m.w m.h (A k)) (hB : ∀ k, InF m.w m.h (B k)) (eA : ∀ s, Slow s → hasS m A s = LA s) (eB : z = false → ∀ s, Slow s → hasS m B s = LB s) (hf : InFd m s) (hs : Slow s) :
   hasS m (burnF (onF m A) (if z = true then harmF m else onF m B)) s = true ↔ ∃ b ∈ BUR, freeB m s b = true ∧ LA (af s b) = true ∧ ∀ o ∈ lessT b, z = false → LB (af s o) = true := by
 rw [burnF_has hs]
 constructor
 · rintro ⟨b, hb, hsp, h1, h2⟩
   have sw : ∀ o ∈ outs b, isSp (s.vx + o.a) (s.vy + o.b) = true := fun o ho => outs_slow (sp_of hs) hsp ho
   rw [onF_has g hA (slow_wi hsp) hf, Bool.and_eq_true] at h1
   have less : ∀ o ∈ lessT b, harmlessB m (wi s o) = true ∧ (z = false → LB (af s o) = true) := fun o ho => by
     have hso := sw o ((lessT_outs hb).mp ho).1
     have q := h2 o ho
     cases z with
     | true =>
       rw [if_pos rfl, harmF_has g (slow_wi hso) hf] at q
       exact ⟨q, fun e => by cases e⟩
     | false =>
       rw [if_neg (by simp), onF_has g hB (slow_wi hso) hf, Bool.and_eq_true] at q
       refine ⟨q.1, fun e => ?_⟩
       rw [← eB e _ (slow_af hso)]
       exact q.2
   refine ⟨b, hb, (freeB_iff hb).mpr ⟨hsp, fun o ho => ?_⟩, ?_, fun o ho => (less o ho).2⟩
   · by_cases e : o = b
     · rw [e]
       exact h1.1
     · exact (less o ((lessT_outs hb).mpr ⟨ho, e⟩)).1
   · rw [← eA _ (slow_af hsp)]
     exact h1.2
 · rintro ⟨b, hb, hfr, h1, h2⟩
   obtain ⟨hsp, hh⟩ := (freeB_iff hb).mp hfr
   have sw : ∀ o ∈ outs b, isSp (s.vx + o.a) (s.vy + o.b) = true := fun o ho => outs_slow (sp_of hs) hsp ho
   refine ⟨b, hb, hsp, ?_, fun o ho => ?_⟩
   · rw [onF_has g hA (slow_wi hsp) hf, Bool.and_eq_true]
     refine ⟨hh b self_outs, ?_⟩
     rw [← eA _ (slow_af hsp)] at h1
     exact h1
   · obtain ⟨ho1, _⟩ := (lessT_outs hb).mp ho
     have hso := sw o ho1
     cases z with
     | true =>
       rw [if_pos rfl, harmF_has g (slow_wi hso) hf]
       exact hh o ho1
     | false =>
       rw [if_neg (by simp), onF_has g hB (slow_wi hso) hf, Bool.and_eq_true]
       refine ⟨hh o ho1, ?_⟩
       have q := h2 o ho rfl
       rw [← eB rfl _ (slow_af hso)] at q
       exact q
theorem levF_succ {m : Map_} {n c : Nat} {s : State} : hasS m (levF m (n + 1) c) s = (hasS m (thereF m) s || hasS m (burnF (onF m (levF m n c)) (if (decide (c = 0)) = true then harmF m else onF m (levF m n (c - 1)))) s) := by
 have e : (if c = 0 then harmF m else onF m (levF m n (c - 1))) = (if (decide (c = 0)) = true then harmF m else onF m (levF m n (c - 1))) := by
   by_cases h : c = 0
   · rw [if_pos h, if_pos (decide_eq_true h)]
   · rw [if_neg h, if_neg (by simp [h])]
 rw [← e]
 exact hasP_or
theorem lev_look {m : Map_} (g : GoodM m) : ∀ (n c : Nat) (s : State), c < 8 → Slow s → hasS m (levF m n c) s = look m (level m (frees m) n) s c
 | 0, c, s, hc, hs => by
   by_cases hf : InFd m s
   · show hasS m (thereF m) s = look m (first m) s c
     rw [thereF_has g hs, look_first g hc hf hs]
   · rw [hasS_out hf, look_out hf]
 | n + 1, c, s, hc, hs => by
   by_cases hf : InFd m s
   · show _ = look m (next m (frees m) (level m (frees m) n)) s c
     rw [look_next g hc hf hs, levF_succ, thereF_has g hs]
     congr 1
     rw [Bool.eq_iff_iff, step_iff g (LA := fun s => look m (level m (frees m) n) s c) (LB := fun s => look m (level m (frees m) n) s (c - 1)) (levF_in g n c) (levF_in g n (c - 1)) (fun s hs => lev_look g n c s hc hs) (fun _ s hs => lev_look g n (c - 1) s (by omega) hs) hf hs, List.any_eq_true]
     constructor
     · rintro ⟨b, hb, h1, h2, h3⟩
       exact ⟨b, List.mem_filter.mpr ⟨mem_BUR.mp hb, h1⟩, (byB_iff hb).mpr ⟨h2, fun o ho hc' => h3 o ho (decide_eq_false hc')⟩⟩
     · rintro ⟨b, hb, h1⟩
       obtain ⟨hb1, hb2⟩ := List.mem_filter.mp hb
       have hb1 := mem_BUR.mpr hb1
       obtain ⟨h2, h3⟩ := (byB_iff hb1).mp h1
       exact ⟨b, hb1, hb2, h2, fun o ho hz => h3 o ho (of_decide_eq_false hz)⟩
   · rw [hasS_out hf, look_out hf]
theorem lev_mono1 {m : Map_} (g : GoodM m) : ∀ (n c : Nat) (s : State), Slow s → hasS m (levF m n c) s = true → hasS m (levF m (n + 1) c) s = true
 | 0, c, s, hs, h => by
   rw [levF_succ, Bool.or_eq_true]
   exact .inl h
 | n + 1, c, s, hs, h => by
   by_cases hf : InFd m s
   · rw [levF_succ, Bool.or_eq_true] at h ⊢
     refine h.imp id fun h => ?_
     rw [step_iff g (LA := hasS m (levF m n c)) (LB := hasS m (levF m n (c - 1))) (levF_in g _ c) (levF_in g _ (c - 1)) (fun _ _ => rfl) (fun _ _ _ => rfl) hf hs] at h
     rw [step_iff g (LA := hasS m (levF m (n + 1) c)) (LB := hasS m (levF m (n + 1) (c - 1))) (levF_in g _ c) (levF_in g _ (c - 1)) (fun _ _ => rfl) (fun _ _ _ => rfl) hf hs]
     obtain ⟨b, hb, h1, h2, h3⟩ := h
     obtain ⟨hsp, _⟩ := (freeB_iff hb).mp h1
     have sw : ∀ o ∈ outs b, isSp (s.vx + o.a) (s.vy + o.b) = true := fun o ho => outs_slow (sp_of hs) hsp ho
     exact ⟨b, hb, h1, lev_mono1 g n c _ (slow_af hsp) h2, fun o ho hz => lev_mono1 g n (c - 1) _ (slow_af (sw o ((lessT_outs hb).mp ho).1)) (h3 o ho hz)⟩
   · rw [hasS_out hf] at h
     cases h
theorem lev_mono {m : Map_} (g : GoodM m) {c : Nat} {s : State} (hs : Slow s) {a b : Nat} (h : a ≤ b) (q : hasS m (levF m a c) s = true) : hasS m (levF m b c) s = true := by
 induction h with
 | refl => exact q
 | step _ ih => exact lev_mono1 g _ c s hs ih
theorem lookA_in {m : Map_} (g : GoodM m) {f : State → Bool} {s : State} (hf : InFd m s) (hs : Slow s) : lookA m (build m f) s = f s := by
 unfold lookA
 rw [build_at g _ hf hs, here_iff.mpr ⟨hf, hs⟩, inField_eq, inFld_in hf]
 rfl
theorem lookA_out {m : Map_} {T : Array Bool} {s : State} (hf : ¬ InFd m s) : lookA m T s = true := by
 unfold lookA
 have : m.inField s.x s.y = false := by
   rw [inField_eq, Bool.eq_false_iff]
   intro e
   exact hf (inFld_iff.mp e)
 rw [this]
 rfl
theorem inField_iff {m : Map_} {s : State} : m.inField s.x s.y = true ↔ InFd m s := by rw [inField_eq, inFld_iff]
def awS (m : Map_) (n : Nat) (s : State) : Bool := !(m.inField s.x s.y) || hasS m (awF m n) s
theorem stepA_iff {m : Map_} (g : GoodM m) {n : Nat} {s : State} (hf : InFd m s) (hs : Slow s) :
   hasS m (burnF (awayOn m (awF m n)) (harmF m)) s = true ↔ ∃ b ∈ BUR, freeB m s b = true ∧ awS m n (af s b) = true := by
 rw [burnF_has hs]
 constructor
 · rintro ⟨b, hb, hsp, h1, h2⟩
   have sw : ∀ o ∈ outs b, isSp (s.vx + o.a) (s.vy + o.b) = true := fun o ho => outs_slow (sp_of hs) hsp ho
   rw [awayOn_has g (awF_in g n) (slow_wi hsp) hf, Bool.and_eq_true] at h1
   refine ⟨b, hb, (freeB_iff hb).mpr ⟨hsp, fun o ho => ?_⟩, h1.2⟩
   by_cases e : o = b
   · rw [e]
     exact h1.1
   · have q := h2 o ((lessT_outs hb).mpr ⟨ho, e⟩)
     rw [harmF_has g (slow_wi (sw o ho)) hf] at q
     exact q
 · rintro ⟨b, hb, hfr, h1⟩
   obtain ⟨hsp, hh⟩ := (freeB_iff hb).mp hfr
   have sw : ∀ o ∈ outs b, isSp (s.vx + o.a) (s.vy + o.b) = true := fun o ho => outs_slow (sp_of hs) hsp ho
   refine ⟨b, hb, hsp, ?_, fun o ho => ?_⟩
   · rw [awayOn_has g (awF_in g n) (slow_wi hsp) hf, Bool.and_eq_true]
     exact ⟨hh b self_outs, h1⟩
   · obtain ⟨ho1, _⟩ := (lessT_outs hb).mp ho
     rw [harmF_has g (slow_wi (sw o ho1)) hf]
     exact hh o ho1
theorem awF_succ {m : Map_} (g : GoodM m) {n : Nat} {s : State} (hs : Slow s) : hasS m (awF m (n + 1)) s = (hasS m (burnF (awayOn m (awF m n)) (harmF m)) s && !m.there s) := by
 rw [← thereF_has g hs]
 exact hasP_dif
theorem aw_look {m : Map_} (g : GoodM m) : ∀ (n : Nat) (s : State), Slow s → awS m n s = lookA m (levelA m (frees m) n) s
 | 0, s, hs => by
   by_cases hf : InFd m s
   · show _ = lookA m (firstA m) s
     unfold firstA
     rw [lookA_in g hf hs]
     unfold awS
     rw [inField_iff.mpr hf]
     exact hasP_zero
   · rw [lookA_out hf]
     unfold awS
     have : m.inField s.x s.y = false := by
       rw [Bool.eq_false_iff]
       intro e
       exact hf (inField_iff.mp e)
     rw [this]
     rfl
 | n + 1, s, hs => by
   by_cases hf : InFd m s
   · show _ = lookA m (nextA m (frees m) (levelA m (frees m) n)) s
     unfold nextA
     rw [lookA_in g hf hs, here_iff.mpr ⟨hf, hs⟩, Bool.true_and, free_eq g hf hs]
     unfold awS
     rw [inField_iff.mpr hf, awF_succ g hs]
     show (false || _) = _
     rw [Bool.false_or, Bool.and_comm]
     congr 1
     rw [Bool.eq_iff_iff, stepA_iff g hf hs, List.any_eq_true]
     constructor
     · rintro ⟨b, hb, h1, h2⟩
       obtain ⟨hsp, _⟩ := (freeB_iff hb).mp h1
       refine ⟨b, List.mem_filter.mpr ⟨mem_BUR.mp hb, h1⟩, ?_⟩
       rw [← aw_look g n _ (slow_af hsp)]
       exact h2
     · rintro ⟨b, hb, h1⟩
       obtain ⟨hb1, hb2⟩ := List.mem_filter.mp hb
       have hb1 := mem_BUR.mpr hb1
       obtain ⟨hsp, _⟩ := (freeB_iff hb1).mp hb2
       refine ⟨b, hb1, hb2, ?_⟩
       rw [aw_look g n _ (slow_af hsp)]
       exact h1
   · rw [lookA_out hf]
     unfold awS
     have : m.inField s.x s.y = false := by
       rw [Bool.eq_false_iff]
       intro e
       exact hf (inField_iff.mp e)
     rw [this]
     rfl
theorem aw_mono1 {m : Map_} (g : GoodM m) : ∀ (n : Nat) (s : State), Slow s → awS m n s = true → awS m (n + 1) s = true := fun n => by
 induction n with
 | zero =>
   intro s hs h
   unfold awS at h ⊢
   rw [Bool.or_eq_true] at h ⊢
   refine h.imp id fun h => ?_
   have z : hasS m (awF m 0) s = false := hasP_zero
   rw [z] at h
   cases h
 | succ n ih =>
   intro s hs h
   unfold awS at h ⊢
   rw [Bool.or_eq_true] at h ⊢
   refine h.imp id fun h => ?_
   by_cases hf : InFd m s
   · rw [awF_succ g hs, Bool.and_eq_true, stepA_iff g hf hs] at h ⊢
     refine ⟨?_, h.2⟩
     obtain ⟨b, hb, h1, h2⟩ := h.1
     obtain ⟨hsp, _⟩ := (freeB_iff hb).mp h1
     exact ⟨b, hb, h1, ih _ (slow_af hsp) h2⟩
   · rw [hasS_out hf] at h
     cases h
theorem aw_mono {m : Map_} (g : GoodM m) {s : State} (hs : Slow s) {a b : Nat} (h : a ≤ b) (q : awS m a s = true) : awS m b s = true := by
 induction h with
 | refl => exact q
 | step _ ih => exact aw_mono1 g _ s hs ih
end SP
namespace SP
open Sr39 (Box Thing touches Ever)
open Sr40 (Map_ State Burn dx dy okBurn okSpeed one)
open Sr41Neutral (harmlessB outs burns freeB stateAt index build at_ frees free look bitsOf byB first next level lookA firstA nextA levelA find sureIn awayIn lessB chooseOf reckonOn mostFrom mostB countsB doesF)
theorem find_cases {α : Type} [BEq α] [LawfulBEq α] {step : α → α} {test : α → Bool} {L : Nat → α} (hL : ∀ n, L (n + 1) = step (L n)) : ∀ (f n : Nat),
   (∃ k, find step test f n (L n) = some k ∧ n ≤ k ∧ k ≤ n + f ∧ test (L k) = true ∧ ∀ j, n ≤ j → j < k → test (L j) = false) ∨
   (find step test f n (L n) = none ∧ ∀ k, n ≤ k → k ≤ n + f → test (L k) = false)
 | 0, n => by
   unfold find
   cases h : test (L n) with
   | true => exact .inl ⟨n, by rw [if_pos rfl], Nat.le_refl _, Nat.le_refl _, h, fun j h1 h2 => absurd h1 (by omega)⟩
   | false =>
     refine .inr ⟨by rw [if_neg (by simp)], fun k h1 h2 => ?_⟩
     obtain rfl : k = n := by omega
     exact h
 | f + 1, n => by
   unfold find
   cases h : test (L n) with
   | true => exact .inl ⟨n, by rw [if_pos rfl], Nat.le_refl _, by omega, h, fun j h1 h2 => absurd h1 (by omega)⟩
   | false =>
     rw [if_neg (by simp)]
     dsimp only
     rw [← hL n]
     by_cases e : (L (n + 1) == L n) = true
     · rw [if_pos e]
       have e : L (n + 1) = L n := eq_of_beq e
       have st : ∀ j, L (n + j) = L n := by
         intro j
         induction j with
         | zero => rfl
         | succ j ih =>
           show L (n + j + 1) = L n
           rw [hL, ih, ← hL, e]
       refine .inr ⟨rfl, fun k h1 _ => ?_⟩
       obtain ⟨j, rfl⟩ : ∃ j, k = n + j := ⟨k - n, by omega⟩
       rw [st]
       exact h
     · rw [if_neg e]
       rcases find_cases hL f (n + 1) with ⟨k, h1, h2, h3, h4, h5⟩ | ⟨h1, h2⟩
       · refine .inl ⟨k, h1, by omega, by omega, h4, fun j h6 h7 => ?_⟩
         by_cases e : j = n
         · rw [e]
           exact h
         · exact h5 j (by omega) h7
       · refine .inr ⟨h1, fun k h3 h4 => ?_⟩
         by_cases e : k = n
         · rw [e]
           exact h
         · exact h2 k (by omega) (by omega)
theorem sure_cases {m : Map_} (g : GoodM m) {s : State} (hs : Slow s) {c : Nat} (hc : c < 8) :
   (∃ k, sureIn m (frees m) s c = some k ∧ k ≤ 250 ∧ hasS m (levF m k c) s = true ∧ ∀ j, j < k → hasS m (levF m j c) s = false) ∨
   (sureIn m (frees m) s c = none ∧ ∀ k, k ≤ 250 → hasS m (levF m k c) s = false) := by
 have L := find_cases (step := next m (frees m)) (test := fun T => look m T s c) (L := level m (frees m)) (fun _ => rfl) 250 0
 simp only [Nat.zero_add, ← lev_look g _ c s hc hs] at L
 rcases L with ⟨k, h1, _, h2, h3, h4⟩ | ⟨h1, h2⟩
 · exact .inl ⟨k, h1, h2, h3, fun j hj => h4 j (Nat.zero_le _) hj⟩
 · exact .inr ⟨h1, fun k hk => h2 k (Nat.zero_le _) hk⟩
theorem away_cases {m : Map_} (g : GoodM m) {s : State} (hs : Slow s) :
   (∃ k, awayIn m (frees m) s = some k ∧ k ≤ 250 ∧ awS m k s = true ∧ ∀ j, j < k → awS m j s = false) ∨
   (awayIn m (frees m) s = none ∧ ∀ k, k ≤ 250 → awS m k s = false) := by
 have L := find_cases (step := nextA m (frees m)) (test := fun T => lookA m T s) (L := levelA m (frees m)) (fun _ => rfl) 250 0
 simp only [Nat.zero_add, ← aw_look g _ s hs] at L
 rcases L with ⟨k, h1, _, h2, h3, h4⟩ | ⟨h1, h2⟩
 · exact .inl ⟨k, h1, h2, h3, fun j hj => h4 j (Nat.zero_le _) hj⟩
 · exact .inr ⟨h1, fun k hk => h2 k (Nat.zero_le _) hk⟩
theorem sure_some {m : Map_} (g : GoodM m) {s : State} (hs : Slow s) {c : Nat} (hc : c < 8) : (sureIn m (frees m) s c).isSome = hasS m (levF m 250 c) s := by
 rcases sure_cases g hs hc with ⟨k, h1, h2, h3, _⟩ | ⟨h1, h2⟩
 · rw [h1, lev_mono g hs h2 h3]
   rfl
 · rw [h1, h2 250 (Nat.le_refl _)]
   rfl
theorem away_some {m : Map_} (g : GoodM m) {s : State} (hs : Slow s) : (awayIn m (frees m) s).isSome = awS m 250 s := by
 rcases away_cases g hs with ⟨k, h1, h2, h3, _⟩ | ⟨h1, h2⟩
 · rw [h1, aw_mono g hs h2 h3]
   rfl
 · rw [h1, h2 250 (Nat.le_refl _)]
   rfl
def freeP (m : Map_) (s : State) (b : Burn) : Bool := (b :: lessT b).all fun o => hasS m (harmF m) (wi s o)
theorem freeP_eq {m : Map_} (g : GoodM m) {s : State} (hf : InFd m s) (hs : Slow s) {b : Burn} (hb : b ∈ BUR) (hsp : isSp (s.vx + b.a) (s.vy + b.b) = true) : freeP m s b = freeB m s b := by
 have sw : ∀ o ∈ outs b, isSp (s.vx + o.a) (s.vy + o.b) = true := fun o ho => outs_slow (sp_of hs) hsp ho
 rw [Bool.eq_iff_iff, freeB_iff hb]
 unfold freeP
 rw [List.all_eq_true]
 constructor
 · intro h
   refine ⟨hsp, fun o ho => ?_⟩
   rw [← harmF_has g (slow_wi (sw o ho)) hf]
   by_cases e : o = b
   · exact h o (by rw [e]; exact List.mem_cons_self ..)
   · exact h o (List.mem_cons_of_mem _ ((lessT_outs hb).mpr ⟨ho, e⟩))
 · rintro ⟨_, h⟩ o ho
   have ho' : o ∈ outs b := by
     rcases List.mem_cons.mp ho with e | h2
     · rw [e]
       exact self_outs
     · exact ((lessT_outs hb).mp h2).1
   rw [harmF_has g (slow_wi (sw o ho')) hf]
   exact h o ho'
def sureBy (m : Map_) (s : State) (t c : Nat) (b : Burn) : Bool :=
 freeP m s b && (hasS m (levF m (t - 1) c) (af s b) && (decide (c = 0) || (lessT b).all fun o => hasS m (levF m (t - 1) (c - 1)) (af s o)))
def awayBy (m : Map_) (s : State) (t : Nat) (b : Burn) : Bool := freeP m s b && awS m (t - 1) (af s b)
theorem head_congr {p q : Burn → Bool} (h : ∀ b ∈ BUR, p b = q b) : (BUR.filter p).head? = (BUR.filter q).head? := by
 rw [List.filter_congr h]
theorem choose_sure {m : Map_} (g : GoodM m) {s : State} (hf : InFd m s) (hs : Slow s) {n c : Nat} (hc : c < 8) :
   chooseOf ((free (frees m) s).filter (byB m (level m (frees m) n) s c)) = ((burnsAt s.vx s.vy).filter (sureBy m s (n + 1) c)).head? := by
 rw [free_eq g hf hs, List.filter_filter, choose_first]
 unfold burnsAt
 rw [List.filter_filter]
 refine head_congr fun b hb => ?_
 cases hsp : isSp (s.vx + b.a) (s.vy + b.b) with
 | false =>
   rw [Bool.and_false]
   have : freeB m s b = false := by
     rw [Bool.eq_false_iff]
     intro e
     rw [((freeB_iff hb).mp e).1] at hsp
     cases hsp
   rw [this, Bool.and_false]
 | true =>
   have sw : ∀ o ∈ outs b, isSp (s.vx + o.a) (s.vy + o.b) = true := fun o ho => outs_slow (sp_of hs) hsp ho
   rw [Bool.and_true]
   unfold sureBy
   rw [freeP_eq g hf hs hb hsp, Bool.and_comm]
   congr 1
   rw [Bool.eq_iff_iff, byB_iff hb, Bool.and_eq_true, Bool.or_eq_true, List.all_eq_true, decide_eq_true_eq, Nat.add_sub_cancel]
   rw [lev_look g n c _ hc (slow_af hsp)]
   constructor
   · rintro ⟨h1, h2⟩
     refine ⟨h1, ?_⟩
     by_cases h0 : c = 0
     · exact .inl h0
     · refine .inr fun o ho => ?_
       rw [lev_look g n (c - 1) _ (by omega) (slow_af (sw o ((lessT_outs hb).mp ho).1))]
       exact h2 o ho h0
   · rintro ⟨h1, h2⟩
     refine ⟨h1, fun o ho h0 => ?_⟩
     rw [← lev_look g n (c - 1) _ (by omega) (slow_af (sw o ((lessT_outs hb).mp ho).1))]
     exact h2.resolve_left h0 o ho
theorem choose_away {m : Map_} (g : GoodM m) {s : State} (hf : InFd m s) (hs : Slow s) {n : Nat} :
   chooseOf ((free (frees m) s).filter fun b => lookA m (levelA m (frees m) n) (af s b)) = ((burnsAt s.vx s.vy).filter (awayBy m s (n + 1))).head? := by
 rw [free_eq g hf hs, List.filter_filter, choose_first]
 unfold burnsAt
 rw [List.filter_filter]
 refine head_congr fun b hb => ?_
 cases hsp : isSp (s.vx + b.a) (s.vy + b.b) with
 | false =>
   rw [Bool.and_false]
   have : freeB m s b = false := by
     rw [Bool.eq_false_iff]
     intro e
     rw [((freeB_iff hb).mp e).1] at hsp
     cases hsp
   rw [this, Bool.and_false]
 | true =>
   rw [Bool.and_true]
   unfold awayBy
   rw [freeP_eq g hf hs hb hsp, Bool.and_comm, Nat.add_sub_cancel, aw_look g n _ (slow_af hsp)]
theorem some_burn {m : Map_} (g : GoodM m) {s : State} (hf : InFd m s) (hs : Slow s) {n c : Nat} (hc : c < 8) (h : hasS m (levF m (n + 1) c) s = true) (h0 : m.there s = false) : ∃ b, ((burnsAt s.vx s.vy).filter (sureBy m s (n + 1) c)).head? = some b := by
 rw [← choose_sure g hf hs hc]
 rw [lev_look g _ c s hc hs] at h
 have h : look m (next m (frees m) (level m (frees m) n)) s c = true := h
 rw [look_next g hc hf hs, h0, Bool.false_or, List.any_eq_true] at h
 obtain ⟨b, hb, hq⟩ := h
 rw [free_eq g hf hs]
 have hm : b ∈ (burns.filter (freeB m s)).filter (byB m (level m (frees m) n) s c) := List.mem_filter.mpr ⟨hb, hq⟩
 generalize (burns.filter (freeB m s)).filter (byB m (level m (frees m) n) s c) = l at hm
 cases l with
 | nil => cases hm
 | cons a r =>
   unfold chooseOf
   cases chooseOf r with
   | none => exact ⟨_, rfl⟩
   | some d =>
     dsimp only
     split
     · exact ⟨_, rfl⟩
     · exact ⟨_, rfl⟩
theorem some_burnA {m : Map_} (g : GoodM m) {s : State} (hf : InFd m s) (hs : Slow s) {n : Nat} (h : awS m (n + 1) s = true) : ∃ b, ((burnsAt s.vx s.vy).filter (awayBy m s (n + 1))).head? = some b := by
 rw [← choose_away g hf hs]
 rw [aw_look g _ s hs] at h
 have h : lookA m (nextA m (frees m) (levelA m (frees m) n)) s = true := h
 unfold nextA at h
 rw [lookA_in g hf hs, Bool.and_eq_true, Bool.and_eq_true, List.any_eq_true, free_eq g hf hs] at h
 obtain ⟨_, _, b, hb, hq⟩ := h
 rw [free_eq g hf hs]
 have hm : b ∈ (burns.filter (freeB m s)).filter (fun b => lookA m (levelA m (frees m) n) (af s b)) := List.mem_filter.mpr ⟨hb, hq⟩
 generalize (burns.filter (freeB m s)).filter (fun b => lookA m (levelA m (frees m) n) (af s b)) = l at hm
 cases l with
 | nil => cases hm
 | cons a r =>
   unfold chooseOf
   cases chooseOf r with
   | none => exact ⟨_, rfl⟩
   | some d =>
     dsimp only
     split
     · exact ⟨_, rfl⟩
     · exact ⟨_, rfl⟩
structure SureBurn (m : Map_) (s : State) (c : Nat) (t : Nat) (b : Burn) : Prop where
 one : 1 ≤ t
 most : t ≤ 250
 now : hasS m (levF m t c) s = true
 least : ∀ j, j < t → hasS m (levF m j c) s = false
 pick : ((burnsAt s.vx s.vy).filter (sureBy m s t c)).head? = some b
theorem sure_burn {m : Map_} (g : GoodM m) {s : State} (hf : InFd m s) (hs : Slow s) {c : Nat} (hc : c < 8) (h : hasS m (levF m 250 c) s = true) (h0 : m.there s = false) : ∃ t b, SureBurn m s c t b := by
 rcases sure_cases g hs hc with ⟨k, h1, h2, h3, h4⟩ | ⟨h1, h2⟩
 · cases k with
   | zero =>
     have q : hasS m (thereF m) s = true := h3
     rw [thereF_has g hs, h0] at q
     cases q
   | succ n =>
     obtain ⟨b, hb⟩ := some_burn g hf hs hc h3 h0
     exact ⟨n + 1, b, by omega, h2, h3, h4, hb⟩
 · rw [h2 250 (Nat.le_refl _)] at h
   cases h
theorem reckon_burn {m : Map_} (g : GoodM m) {s : State} (hf : InFd m s) (hs : Slow s) {c t : Nat} {b : Burn} (hc : c < 8) (h0 : m.there s = false) (B : SureBurn m s c t b) : reckonOn m (.burn s c) = some (.burn (t : Int) b) := by
 unfold reckonOn
 dsimp only
 have hh : m.here s = true := here_iff.mpr ⟨hf, hs⟩
 rw [if_neg (by rw [hh]; unfold Sr40.MISFIRES; rintro (e | e); cases e; omega), if_neg (by rw [h0]; simp)]
 try dsimp only
 rcases sure_cases g hs hc with ⟨k, h1, h2, h3, h4⟩ | ⟨h1, h2⟩
 · have e : k = t := by
     rcases Nat.lt_trichotomy k t with q | q | q
     · rw [B.least k q] at h3
       cases h3
     · exact q
     · have z := h4 t q
       rw [B.now] at z
       cases z
   subst e
   have := B.one
   obtain ⟨n, rfl⟩ : ∃ n, k = n + 1 := ⟨k - 1, by omega⟩
   rw [h1]
   dsimp only
   rw [choose_sure g hf hs hc, B.pick]
   rfl
 · have z := h2 t B.most
   rw [B.now] at z
   cases z
structure AwayBurn (m : Map_) (s : State) (t : Nat) (b : Burn) : Prop where
 one : 1 ≤ t
 most : t ≤ 250
 now : awS m t s = true
 least : ∀ j, j < t → awS m j s = false
 pick : ((burnsAt s.vx s.vy).filter (awayBy m s t)).head? = some b
theorem away_burn {m : Map_} (g : GoodM m) {s : State} (hf : InFd m s) (hs : Slow s) (h : awS m 250 s = true) : ∃ t b, AwayBurn m s t b := by
 rcases away_cases g hs with ⟨k, h1, h2, h3, h4⟩ | ⟨h1, h2⟩
 · cases k with
   | zero =>
     unfold awS at h3
     rw [inField_iff.mpr hf] at h3
     have z : hasS m (awF m 0) s = false := hasP_zero
     rw [z] at h3
     cases h3
   | succ n =>
     obtain ⟨b, hb⟩ := some_burnA g hf hs h3
     exact ⟨n + 1, b, by omega, h2, h3, h4, hb⟩
 · rw [h2 250 (Nat.le_refl _)] at h
   cases h
theorem reckon_away {m : Map_} (g : GoodM m) {s : State} (hf : InFd m s) (hs : Slow s) {t : Nat} {b : Burn} (h0 : m.there s = false) (B : AwayBurn m s t b) : reckonOn m (.away s) = some (.burn (t : Int) b) := by
 unfold reckonOn
 dsimp only
 have hh : m.here s = true := here_iff.mpr ⟨hf, hs⟩
 rw [if_neg (by rw [hh]; simp), if_neg (by rw [h0]; simp)]
 try dsimp only
 rcases away_cases g hs with ⟨k, h1, h2, h3, h4⟩ | ⟨h1, h2⟩
 · have e : k = t := by
     rcases Nat.lt_trichotomy k t with q | q | q
     · rw [B.least k q] at h3
       cases h3
     · exact q
     · have z := h4 t q
       rw [B.now] at z
       cases z
   subst e
   have := B.one
   obtain ⟨n, rfl⟩ : ∃ n, k = n + 1 := ⟨k - 1, by omega⟩
   rw [h1]
   dsimp only
   have q := choose_away g hf hs (n := n)
   rw [q, B.pick]
   rfl
 · have z := h2 t B.most
   rw [B.now] at z
   cases z
theorem reckon_awayNot {m : Map_} (g : GoodM m) {s : State} (hf : InFd m s) (hs : Slow s) (h0 : m.there s = false) (h : awS m 250 s = false) : reckonOn m (.away s) = some (.num (-61)) := by
 unfold reckonOn
 dsimp only
 have hh : m.here s = true := here_iff.mpr ⟨hf, hs⟩
 rw [if_neg (by rw [hh]; simp), if_neg (by rw [h0]; simp)]
 try dsimp only
 have q := away_some g hs
 rw [h] at q
 cases e : awayIn m (frees m) s with
 | none => rfl
 | some k =>
   rw [e] at q
   cases q
def mostP (m : Map_) (s : State) : Option Nat := mostFrom (fun c => hasS m (levF m 250 c) s) 8
theorem most_eq {m : Map_} (g : GoodM m) {s : State} (hs : Slow s) : mostB m (frees m) s = mostP m s := by
 unfold mostB mostP
 have : ∀ n, n ≤ 8 → mostFrom (fun c => (sureIn m (frees m) s c).isSome) n = mostFrom (fun c => hasS m (levF m 250 c) s) n := by
   intro n
   induction n with
   | zero => intro _; rfl
   | succ n ih =>
     intro hn
     unfold mostFrom
     rw [ih (by omega), sure_some g hs (by omega)]
 exact this 8 (Nat.le_refl _)
end SP
namespace SP
open Sr39 (Box Thing touches Ever)
open Sr40 (Map_ State Burn dx dy okBurn okSpeed one)
open Sr41 (Craft)
open Sr41Neutral (harmlessB outs burns frees free look byB first next level lookA firstA nextA levelA find sureIn awayIn chooseOf reckonOn mostFrom mostB countsB doesF)
theorem burnF_congr {T T' M M' : Nat → Nat} (hT : ∀ k, k < 49 → T k = T' k) (hM : ∀ k, k < 49 → M k = M' k) {k : Nat} (hk : k < 49) : burnF T M k = burnF T' M' k := by
 unfold burnF
 obtain ⟨hsp, _⟩ := num_vx hk
 have one : ∀ b ∈ burnsAt (vxOf k) (vyOf k), goodF T M (vxOf k) (vyOf k) b = goodF T' M' (vxOf k) (vyOf k) b := fun b hb => by
   unfold burnsAt at hb
   obtain ⟨hb1, hb2⟩ := List.mem_filter.mp hb
   unfold goodF
   rw [hT _ (numV_lt hb2)]
   have : ∀ (l : List Burn) (a : Nat), (∀ c ∈ l, c ∈ outs b) → l.foldl (fun g c => g &&& M (numV (vxOf k + c.a) (vyOf k + c.b))) a = l.foldl (fun g c => g &&& M' (numV (vxOf k + c.a) (vyOf k + c.b))) a := by
     intro l
     induction l with
     | nil => intro a _; rfl
     | cons c r ih =>
       intro a hc
       show r.foldl _ (a &&& M _) = r.foldl _ (a &&& M' _)
       rw [hM _ (numV_lt (outs_slow hsp hb2 (hc c (List.mem_cons_self ..)))), ih _ fun d hd => hc d (List.mem_cons_of_mem _ hd)]
   exact this _ _ fun c hc => ((lessT_outs hb1).mp hc).1
 have : ∀ (l : List Burn) (a : Nat), (∀ b ∈ l, goodF T M (vxOf k) (vyOf k) b = goodF T' M' (vxOf k) (vyOf k) b) → l.foldl (fun p b => p ||| goodF T M (vxOf k) (vyOf k) b) a = l.foldl (fun p b => p ||| goodF T' M' (vxOf k) (vyOf k) b) a := by
   intro l
   induction l with
   | nil => intro a _; rfl
   | cons c r ih =>
     intro a hc
     show r.foldl _ (a ||| goodF T M _ _ c) = r.foldl _ (a ||| goodF T' M' _ _ c)
     rw [hc c (List.mem_cons_self ..), ih _ fun d hd => hc d (List.mem_cons_of_mem _ hd)]
 exact this _ _ one
theorem lev_stay {m : Map_} {n : Nat} (h : ∀ c k, c < 8 → k < 49 → levF m (n + 1) c k = levF m n c k) : ∀ j c k, c < 8 → k < 49 → levF m (n + j) c k = levF m n c k := by
 intro j
 induction j with
 | zero => intro c k _ _; rfl
 | succ j ih =>
   intro c k hc hk
   rw [← h c k hc hk]
   show thereF m k ||| burnF (onF m (levF m (n + j) c)) (if c = 0 then harmF m else onF m (levF m (n + j) (c - 1))) k = thereF m k ||| burnF (onF m (levF m n c)) (if c = 0 then harmF m else onF m (levF m n (c - 1))) k
   congr 1
   refine burnF_congr (fun k' hk' => ?_) (fun k' hk' => ?_) hk
   · unfold onF
     rw [ih c k' hc hk']
   · split
     · rfl
     · unfold onF
       rw [ih (c - 1) k' (by omega) hk']
theorem aw_stay {m : Map_} {n : Nat} (h : ∀ k, k < 49 → awF m (n + 1) k = awF m n k) : ∀ j k, k < 49 → awF m (n + j) k = awF m n k := by
 intro j
 induction j with
 | zero => intro k _; rfl
 | succ j ih =>
   intro k hk
   rw [← h k hk]
   show dif (burnF (awayOn m (awF m (n + j))) (harmF m) k) (thereF m k) = dif (burnF (awayOn m (awF m n)) (harmF m) k) (thereF m k)
   congr 1
   refine burnF_congr (fun k' hk' => ?_) (fun k' hk' => rfl) hk
   unfold awayOn
   rw [ih k' hk']
def StopsAt (m : Map_) (n : Nat) : Prop := n = 250 ∨ (n < 250 ∧ ∀ c k, c < 8 → k < 49 → levF m (n + 1) c k = levF m n c k)
theorem StopsAt.at_ {m : Map_} {n t c k : Nat} (h : StopsAt m n) (ht : t ≤ 250) (hc : c < 8) (hk : k < 49) : levF m (min t n) c k = levF m t c k := by
 rcases h with rfl | ⟨h1, h2⟩
 · rw [Nat.min_eq_left ht]
 · by_cases hle : t ≤ n
   · rw [Nat.min_eq_left hle]
   · rw [Nat.min_eq_right (by omega)]
     obtain ⟨j, rfl⟩ : ∃ j, t = n + j := ⟨t - n, by omega⟩
     exact (lev_stay h2 j c k hc hk).symm
def StopsA (m : Map_) (n : Nat) : Prop := n = 250 ∨ (n < 250 ∧ ∀ k, k < 49 → awF m (n + 1) k = awF m n k)
theorem StopsA.at_ {m : Map_} {n t k : Nat} (h : StopsA m n) (ht : t ≤ 250) (hk : k < 49) : awF m (min t n) k = awF m t k := by
 rcases h with rfl | ⟨h1, h2⟩
 · rw [Nat.min_eq_left ht]
 · by_cases hle : t ≤ n
   · rw [Nat.min_eq_left hle]
   · rw [Nat.min_eq_right (by omega)]
     obtain ⟨j, rfl⟩ : ∃ j, t = n + j := ⟨t - n, by omega⟩
     exact (aw_stay h2 j k hk).symm
theorem here_of {m : Map_} {s : State} (h : m.here s = true) : InFd m s ∧ Slow s := here_iff.mp h
theorem does_there {r : Craft} {s : State} (h : r.map.there s = true) : doesF r s = some (5, ⟨0, 0⟩, r.nothing) := by
 unfold doesF
 rw [if_pos h]
theorem does_gone {r : Craft} {s : State} (h0 : r.map.there s = false) (h : r.map.here s = false) : doesF r s = some (4, ⟨0, 0⟩, r.nothing) := by
 unfold doesF
 rw [if_neg (by rw [h0]; simp), if_pos h]
theorem does_waits {r : Craft} {s : State} (h0 : r.map.there s = false) (h : r.map.here s = true) (hm : r.mode = 0) : doesF r s = some (0, ⟨0, 0⟩, r) := by
 unfold doesF
 rw [if_neg (by rw [h0]; simp), if_neg (by rw [h]; simp), if_pos hm]
theorem does_leaves {r : Craft} {s : State} (g : GoodM r.map) (h0 : r.map.there s = false) (h : r.map.here s = true) (hm : r.mode = 2) {t : Nat} {b : Burn} (B : AwayBurn r.map s t b) : doesF r s = some (2, b, r) := by
 unfold doesF
 rw [if_neg (by rw [h0]; simp), if_neg (by rw [h]; simp), if_neg (by rw [hm]; decide), if_pos hm, reckon_away g (here_of h).1 (here_of h).2 h0 B]
theorem does_leavesNot {r : Craft} {s : State} (g : GoodM r.map) (h0 : r.map.there s = false) (h : r.map.here s = true) (hm : r.mode = 2) (hA : awS r.map 250 s = false) : doesF r s = some (3, ⟨0, 0⟩, r) := by
 unfold doesF
 rw [if_neg (by rw [h0]; simp), if_neg (by rw [h]; simp), if_neg (by rw [hm]; decide), if_pos hm, reckon_awayNot g (here_of h).1 (here_of h).2 h0 hA]
 rfl
def countsP (r : Craft) (s : State) : Option Nat :=
 if r.expects = some s then some r.counts else
 if 0 < r.counts ∧ hasS r.map (levF r.map 250 (r.counts - 1)) s = true then some (r.counts - 1) else mostP r.map s
theorem counts_eq {r : Craft} {s : State} (g : GoodM r.map) (h : r.map.here s = true) (hc : r.counts < 8) (hn : r.expects = none → r.counts = 0) : countsB r s = some (countsP r s) := by
 unfold countsB countsP
 rw [if_neg (by omega)]
 by_cases h1 : r.expects = some s
 · rw [if_pos h1, if_pos h1]
 · rw [if_neg h1, if_neg h1]
   by_cases h2 : 0 < r.counts ∧ hasS r.map (levF r.map 250 (r.counts - 1)) s = true
   · have h3 : r.expects ≠ none := fun e => by have := hn e; omega
     rw [if_pos h2, if_pos ⟨h3, h2.1, by rw [sure_some g (here_of h).2 (by omega)]; exact h2.2⟩]
   · rw [if_neg h2, if_neg, most_eq g (here_of h).2]
     rintro ⟨_, h4, h5⟩
     rw [sure_some g (here_of h).2 (by omega)] at h5
     exact h2 ⟨h4, h5⟩
theorem does_goes {r : Craft} {s : State} (g : GoodM r.map) (h0 : r.map.there s = false) (h : r.map.here s = true) (hm : r.mode = 1) (hc : r.counts < 8) (hn : r.expects = none → r.counts = 0) {c t : Nat} {b : Burn} (hp : countsP r s = some c) (hc' : c < 8)
   (B : SureBurn r.map s c t b) : doesF r s = some (1, b, { r with expects := some (af s b), counts := c }) := by
 unfold doesF
 rw [if_neg (by rw [h0]; simp), if_neg (by rw [h]; simp), if_neg (by rw [hm]; decide), if_neg (by rw [hm]; decide), if_pos hm, counts_eq g h hc hn, hp]
 dsimp only
 rw [reckon_burn g (here_of h).1 (here_of h).2 hc' h0 B]
theorem does_goesNot {r : Craft} {s : State} (g : GoodM r.map) (h0 : r.map.there s = false) (h : r.map.here s = true) (hm : r.mode = 1) (hc : r.counts < 8) (hn : r.expects = none → r.counts = 0) (hp : countsP r s = none) : doesF r s = some (3, ⟨0, 0⟩, r.nothing) := by
 unfold doesF
 rw [if_neg (by rw [h0]; simp), if_neg (by rw [h]; simp), if_neg (by rw [hm]; decide), if_neg (by rw [hm]; decide), if_pos hm, counts_eq g h hc hn, hp]
theorem most_spec {m : Map_} {s : State} {c : Nat} (h : mostP m s = some c) : c < 8 ∧ hasS m (levF m 250 c) s = true := by
 unfold mostP at h
 have : ∀ n, mostFrom (fun c => hasS m (levF m 250 c) s) n = some c → c < n ∧ hasS m (levF m 250 c) s = true := by
   intro n
   induction n with
   | zero => intro h; cases h
   | succ n ih =>
     intro h
     unfold mostFrom at h
     split at h
     · rename_i q
       cases h
       exact ⟨by omega, q⟩
     · have := ih h
       exact ⟨by omega, this.2⟩
 exact this 8 h
structure CraftOk (r : Craft) : Prop where
 g : GoodM r.map
 few : r.counts < 8
 none_ : r.expects = none → r.counts = 0
 sure : ∀ s, r.expects = some s → r.mode = 1 ∧ Slow s ∧ (InFd r.map s ∨ r.map.there s = true) ∧ hasS r.map (levF r.map 250 r.counts) s = true
theorem counts_sure {r : Craft} {s : State} (C : CraftOk r) {c : Nat} (h : countsP r s = some c) : c < 8 ∧ hasS r.map (levF r.map 250 c) s = true := by
 unfold countsP at h
 split at h
 · rename_i e
   cases h
   exact ⟨C.few, (C.sure s e).2.2.2⟩
 · split at h
   · rename_i e
     cases h
     have := C.few
     exact ⟨by omega, e.2⟩
   · exact most_spec h
theorem head_mem {α : Type} {p : α → Bool} {l : List α} {b : α} (h : (l.filter p).head? = some b) : b ∈ l ∧ p b = true := by
 have : b ∈ l.filter p := List.mem_of_mem_head? (by rw [h]; exact rfl)
 exact List.mem_filter.mp this
theorem sure_next {m : Map_} (g : GoodM m) {s : State} {c t : Nat} {b : Burn} (B : SureBurn m s c t b) : isSp (s.vx + b.a) (s.vy + b.b) = true ∧ hasS m (levF m (t - 1) c) (af s b) = true := by
 obtain ⟨h1, h2⟩ := head_mem B.pick
 unfold burnsAt at h1
 unfold sureBy at h2
 rw [Bool.and_eq_true, Bool.and_eq_true] at h2
 exact ⟨(List.mem_filter.mp h1).2, h2.2.1⟩
theorem hasS_in {m : Map_} {f : Nat → Nat} {s : State} (h : hasS m f s = true) : InFd m s := by
 by_cases hf : InFd m s
 · exact hf
 · rw [hasS_out hf] at h
   cases h
theorem goes_ok {r : Craft} {s : State} (C : CraftOk r) (hm : r.mode = 1) {c t : Nat} {b : Burn} (hc : c < 8) (B : SureBurn r.map s c t b) (k : Nat) : CraftOk { r with expects := some (af s b), counts := c, ticks := k } := by
 obtain ⟨h1, h2⟩ := sure_next C.g B
 refine ⟨C.g, hc, (fun e => by cases e), fun u e => ?_⟩
 cases e
 refine ⟨hm, slow_af h1, .inl (hasS_in h2), ?_⟩
 have := B.most
 exact lev_mono C.g (slow_af h1) (by omega) h2
theorem nothing_ok {r : Craft} (C : CraftOk r) (k md o : Nat) : CraftOk { r.nothing with ticks := k, mode := md, order := o } := ⟨C.g, (by show 0 < 8; decide), fun _ => rfl, fun s e => by cases e⟩
theorem start_ok {m : Map_} (g : GoodM m) : CraftOk (Sr41.startC m) := ⟨g, (by show 0 < 8; decide), fun _ => rfl, fun s e => by cases e⟩
end SP
namespace L2
open PySem PySem.Spec PyProof.Rows
section
variable {X : Cx} {e : Expr} {ta : TA} {p pos : Pos}
theorem irK (K : PySem.W.Frag) {tg : Expr} (hg : Gl X "reversed") (hm : X.mg "reversed" = none) (ha : PA X [e] ta) (hs : starEach [e] X.env = [(false, eval e X.env)] := by rfl) (hK : X.K = K := by rfl) : PI X tg (.Call (.Name "reversed" p) [e] [] pos) (iRev K ta) := hK ▸ pi_reversed hg hm ha hs
end
def RevR (K : PySem.W.Frag) (vs : List V) (H : Hp) (R : It → Hp → Prop) : Prop := ∃ (a : Addr) (xs : List V), vs = [.ref a] ∧ SqL K H a xs ∧ R (Itv K a xs.length) H
def FAugR (K : PySem.W.Frag) (f : Str) (x : V) (H : Hp) (tv : Hp → VK → Prop) (rd : V → V → Hp → VK → Prop) (R : Hp → Prop) : Prop := ∃ a C dx fs v, x = .ref a ∧ H a = some (.ins C dx fs) ∧ Cls K C ∧ NoAttr K C f ∧ fs.lookup f = some v ∧
 tv H fun y H2 => rd v y H2 fun z H3 => ∃ dx' fs', H3 a = some (.ins C dx' fs') ∧ fs'.length < 1000 ∧ R (upd H3 a (.ins C dx' (putF f z fs')))
section
variable {σ : St} {H : Hp} {Q : VK} {D : Ends} {ta tb tv : TE} {K : PySem.W.Frag}
theorem w_ifE {t : TT} (q : t σ H fun c H1 => if c = true then ta σ H1 Q else tb σ H1 Q) : tIf t ta tb σ H Q := q
theorem w_iRev {t : TA} {R : It → Hp → Prop} (q : t σ H fun vs H1 => RevR K vs H1 R) : iRev K t σ H R := q
theorem w_rev {a : Addr} {xs : List V} {R : It → Hp → Prop} (h : SqL K H a xs) (q : R (Itv K a xs.length) H) : RevR K [.ref a] H R := ⟨a, xs, rfl, h, q⟩
theorem w_faug {rd : V → V → Hp → VK → Prop} {f : Str} (q : ta σ H fun x H1 => FAugR K f x H1 (tv σ) rd fun H3 => D.nx σ H3) : sFldAug K ta tv rd f D σ H := q
theorem w_faugI {f : Str} {a C dx : Addr} {fs : List (Str × V)} {i j : Int} {R : Hp → Prop} (h : H a = some (.ins C dx fs)) (c : Cls K C) (n : NoAttr K C f) (l : fs.lookup f = some (.int i)) (hl : fs.length < 1000) (q : R (upd H a (.ins C dx (putF f (.int (i + j)) fs)))) : FAugR K f (.ref a) H (tC (.int j) σ) rAdd R :=
 ⟨a, C, dx, fs, _, rfl, h, c, n, l, ⟨i, j, rfl, rfl, dx, fs, h, hl, q⟩⟩
theorem w_extend {l b : Addr} {xs zs : List V} (h : H l = some (.lst xs)) (hb : H b = some (.lst zs)) (hl : xs.length + zs.length ≤ 100000) (q : Q .non (upd H l (.lst (xs ++ zs)))) : rExtend (.ref l) [.ref b] H Q := ⟨l, b, xs, zs, rfl, rfl, h, hb, Nat.le_trans hl (by decide), q⟩
theorem w_appendB {l : Addr} {xs : List V} {y : V} (h : H l = some (.lst xs)) (hl : xs.length ≤ 100000) (q : Q .non (upd H l (.lst (xs ++ [y])))) : rAppend (.ref l) [y] H Q := ⟨l, xs, y, rfl, rfl, h, Nat.lt_of_le_of_lt hl (by decide), q⟩
end
theorem for_rev {K : PySem.W.Frag} {a : Addr} {xs : List V} {g : TG} {tb : TS} {D : Ends} {σ : St} {H : Hp} (Pv : Nat → St → Hp → Prop) (h0 : Pv 0 σ H) (hl : ∀ i σ H, i ≤ xs.length → Pv i σ H → SqL K H a xs)
   (hs : ∀ i x σ H, i < xs.length → xs[xs.length - 1 - i]? = some x → Pv i σ H → g x σ H fun σ2 H2 => tb { D with nx := Pv (i + 1), ct := Pv (i + 1), bk := D.nx } σ2 H2) (hd : ∀ σ H, Pv xs.length σ H → D.nx σ H) :
   ∃ W : Nat → Nat → St → Hp → Prop, (∃ m, W 0 m σ H) ∧ ∀ i m σ H, W i m σ H →
     ((Itv K a xs.length).stop i H ∧ D.nx σ H) ∨ ((Itv K a xs.length).go i H ∧ ∃ N : St → Hp → Prop, (∀ σ' H', N σ' H' → ∃ m', m' < m ∧ W (i + 1) m' σ' H') ∧ ∀ x H', (Itv K a xs.length).yld i H x H' → g x σ H' fun σ2 H2 => tb { D with nx := N, ct := N, bk := D.nx } σ2 H2) := by
 refine ⟨fun i m σ H => m = xs.length - i ∧ i ≤ xs.length ∧ Pv i σ H, ⟨xs.length, by simp, Nat.zero_le _, h0⟩, ?_⟩
 rintro i m σ H ⟨rfl, hi, p⟩
 have q := hl i σ H hi p
 by_cases hlt : i < xs.length
 · have hj : xs.length - 1 - i < xs.length := by omega
   refine .inr ⟨⟨hlt, xs, xs[xs.length - 1 - i], q, by simp [hj]⟩, Pv (i + 1), fun σ' H' p' => ⟨xs.length - (i + 1), by omega, rfl, hlt, p'⟩, fun x H' y => ?_⟩
   obtain ⟨e, y⟩ := y
   subst e
   exact hs i x σ _ hlt (y xs q) p
 · have e : i = xs.length := by omega
   subst e
   exact .inl ⟨Nat.le_refl _, hd σ H p⟩
end L2
namespace L2
open PySem PySem.Spec PyProof.Rows
def del (H : Hp) (g : Addr) : Hp := fun b => if b = g then none else H b
theorem del_same {H : Hp} {g : Addr} : del H g g = none := if_pos rfl
theorem del_ne {H : Hp} {g b : Addr} (h : b ≠ g) : del H g b = H b := if_neg h
theorem del_le {H : Hp} {g : Addr} : Same (del H g) H := fun b o e => by
 by_cases h : b = g
 · rw [h, del_same] at e
   cases e
 · rw [del_ne h] at e
   exact e
theorem del_upd {H : Hp} {g : Addr} {o : HO} (h : H g = none) : del (upd H g o) g = H := by
 funext b
 by_cases e : b = g
 · rw [e, del_same, h]
 · rw [del_ne e, upd_ne e]
theorem Same.del {H H' : Hp} {g : Addr} (s : Same H H') : Same (L2.del H g) (L2.del H' g) := fun b o e => by
 by_cases h : b = g
 · rw [h, del_same] at e
   cases e
 · rw [del_ne h] at e ⊢
   exact s b o e
def spF (sp : Sp) : Sp := fun vs H Q E => ∃ g xs, H g = some (.lst xs) ∧ sp vs (del H g) (fun v H' => H' g = none → Q v (upd H' g (.lst xs))) E
theorem FnOk.frame {P : Program} {w : World} {K : PySem.W.Frag} {mg : Str → Option Value} {base : Heap} {k : Nat} {f : Addr} {fd : FuncData} {ps : List Str} {sp : Sp} (F : FnOk P w K mg base CX0 k f fd ps sp) : FnOk P w K mg base CX0 k f fd ps (spF sp) where
 len := fun vs H Q E h => by
   obtain ⟨g, xs, _, h⟩ := h
   exact F.len _ _ _ _ h
 run := fun A outer s H args us vs Q E hr e0 hb hv h => by
   obtain ⟨g, xs, hg, h⟩ := h
   have le : ∀ b, H b = none → del H g b = none := fun b n => by
     by_cases z : b = g
     · rw [z]
       exact del_same
     · rw [del_ne z]
       exact n
   have nl : ∀ {b : Addr} {o : HO}, H b = some o → o ≠ .lst xs → b ≠ g := fun e d => ne_of e hg d
   have hok : HOk P w (del H g) s.heap := fun b o e => by
     have e' := del_le b o e
     exact (e0.hok b o e').stay (fun _ _ _ q => q) (fun c q => by rw [del_ne (nl q (by intro z; cases z))]; exact q) fun c ys q => by rw [del_ne (nl q (by intro z; cases z))]; exact q
   have e1 : Env0 P w K mg base A outer s (del H g) := ⟨e0.frames, e0.mod, fun b o e => ⟨(e0.bs b o e).1, le b (e0.bs b o e).2⟩, e0.bsz, e0.funs, fun b m => le b (e0.frf b m), hok, e0.bare⟩
   refine codeAny_mono (F.run A outer s (del H g) args us vs _ E hr e1 hb hv h) fun r s' x => ?_
   cases r with
   | error e => exact False.elim x
   | ok fl =>
     cases fl with
     | next => exact x
     | brk => exact x
     | cont => exact x
     | ret u =>
       obtain ⟨v, H', os, bare, un, hok', r', q⟩ := x
       obtain ⟨hz, its, n, rv, eg⟩ := e0.hok g _ hg
       have hg' : H' g = none := un.free g _ eg del_same (by simp)
       have gf : g ∉ frs outer := fun m => by
         have z := e0.frf g m
         rw [hg] at z
         cases z
       have eg' := un.keep g _ eg del_same gf (by simp)
       have nb : ∀ {b : Addr} {o : HO}, H' b = some o → b ≠ g := fun e => ne_of_none e hg'
       have nH : ∀ {b : Addr}, H b = none → b ≠ g := fun {b} e z => by
         rw [z, hg] at e
         cases e
       refine ⟨v, upd H' g (.lst xs), os, bare, ?_, ?_, r', q hg'⟩
       · exact {
           keep := fun b o e m hf hx => un.keep b o e (le b m) hf hx
           slot := fun b o e m hf hx => un.slot b o e (le b m) hf hx
           free := fun b o e m hx => by rw [upd_ne (nH m)]; exact un.free b o e (le b m) hx
           there := fun b o e hx => un.there b o e hx
           tups := fun b ys e => by
             have hne := nl e (by intro z; cases z)
             rw [upd_ne hne]
             exact un.tups b ys (by rw [del_ne hne]; exact e)
           frzs := fun b o y e => by
             have hne := nl e (by intro z; cases z)
             rw [upd_ne hne]
             exact un.frzs b o y (by rw [del_ne hne]; exact e)
           tbls := fun b y e => by
             have hne := nl e (by intro z; cases z)
             rw [upd_ne hne]
             exact un.tbls b y (by rw [del_ne hne]; exact e) }
       · intro b o e
         by_cases z : b = g
         · subst z
           rw [upd_same] at e
           cases e
           exact ⟨hz, its, n, rv, eg'⟩
         · rw [upd_ne z] at e
           exact (hok' b o e).stay (fun _ _ _ q => q) (fun c q => by rw [upd_ne (nb q)]; exact q) fun c ys q => by rw [upd_ne (nb q)]; exact q
end L2
namespace SPx
open PySem PySem.Spec PyProof.Rows L2 SP
open Sr40 (Burn Map_ State)
variable {K : PySem.W.Frag} {mg : Str → Option Value}
abbrev BT (K : PySem.W.Frag) (H : Hp) (a : Addr) (b : Burn) : Prop := SqT K H a [.int b.a, .int b.b]
def BV (K : PySem.W.Frag) (H : Hp) (v : V) (b : Burn) : Prop := ∃ a, v = .ref a ∧ BT K H a b
abbrev BVs (K : PySem.W.Frag) (H : Hp) : List V → List Burn → Prop := Paired (BV K H)
theorem BV.mono {H H' : Hp} (s : Same H H') {v : V} {b : Burn} (h : BV K H v b) : BV K H' v b := by
 obtain ⟨a, e, h⟩ := h
 exact ⟨a, e, s.tup h⟩
theorem BVs.mono {H H' : Hp} (s : Same H H') {xs : List V} {bs : List Burn} (h : BVs K H xs bs) : BVs K H' xs bs := Paired.imp' (fun _ _ q => BV.mono s q) h
theorem BV.updL {H : Hp} {D : Addr} {ys : List V} {o : HO} {v : V} {b : Burn} (h : BV K H v b) (hD : H D = some (.lst ys)) : BV K (upd H D o) v b := by
 obtain ⟨a, e, h⟩ := h
 exact ⟨a, e, h.updL hD⟩
theorem BVs.updL {H : Hp} {D : Addr} {ys : List V} {o : HO} {xs : List V} {bs : List Burn} (h : BVs K H xs bs) (hD : H D = some (.lst ys)) : BVs K (upd H D o) xs bs := Paired.imp' (fun _ _ q => BV.updL q hD) h
theorem take_snoc {α : Type} {l : List α} {i : Nat} {x : α} (h : l[i]? = some x) : l.take (i + 1) = l.take i ++ [x] := by
 rw [List.take_add_one, h]
 rfl
theorem filter_snoc {α : Type} {p : α → Bool} {l : List α} {i : Nat} {x : α} (h : l[i]? = some x) : (l.take (i + 1)).filter p = (l.take i).filter p ++ (if p x then [x] else []) := by
 rw [take_snoc h, List.filter_append]
 congr 1
 rw [List.filter_cons]
 cases p x <;> rfl
theorem paired_get {α β : Type} {F : α → β → Prop} : ∀ {l₁ : List α} {l₂ : List β} {i : Nat} {b : β}, Paired F l₁ l₂ → l₂[i]? = some b → ∃ a, l₁[i]? = some a ∧ F a b
 | _, _, _, _, .nil, e => by simp at e
 | _, _, 0, _, .cons r _, e => by
   simp at e
   subst e
   exact ⟨_, rfl, r⟩
 | _, _, i + 1, b, .cons _ t, e => by
   obtain ⟨u, h1, h2⟩ := paired_get (i := i) (b := b) t (by simpa using e)
   exact ⟨u, by simpa using h1, h2⟩
theorem paired_get' {α β : Type} {F : α → β → Prop} : ∀ {l₁ : List α} {l₂ : List β} {i : Nat} {a : α}, Paired F l₁ l₂ → l₁[i]? = some a → ∃ b, l₂[i]? = some b ∧ F a b
 | _, _, _, _, .nil, e => by simp at e
 | _, _, 0, _, .cons r _, e => by
   simp at e
   subst e
   exact ⟨_, rfl, r⟩
 | _, _, i + 1, b, .cons _ t, e => by
   obtain ⟨u, h1, h2⟩ := paired_get' (i := i) (a := b) t (by simpa using e)
   exact ⟨u, by simpa using h1, h2⟩
def cdB (b : Burn) : CD := .tup [.int b.a, .int b.b]
theorem kc_burn {v : V} {b : Burn} (h : KC K v (cdB b)) (H : Hp) : BV K H v b := by
 cases h with
 | tup h1 h2 =>
   cases h2 with
   | cons a1 r1 =>
     cases r1 with
     | cons a2 r2 =>
       cases r2
       cases a1
       cases a2
       exact ⟨_, rfl, h1.sq H⟩
theorem kcs_burns {xs : List V} : ∀ {bs : List Burn}, KCs K xs (bs.map cdB) → ∀ H, BVs K H xs bs
 | [], h, H => by
   cases h
   exact .nil
 | b :: r, h, H => by
   cases h with
   | cons h1 h2 => exact .cons (kc_burn h1 H) (kcs_burns h2 H)
theorem burns_at_K (T : Txt K mg) : ∃ xs, KTup K T.motion.BURNS.a xs ∧ ∀ H, BVs K H xs BUR := by
 have h := T.motion.BURNS.k
 cases h with
 | tup h1 h2 => exact ⟨_, h1, kcs_burns (bs := BUR) h2⟩
theorem dp2 {H : Hp} {a : Addr} {p q : Int} (h : SqT K H a [.int p, .int q]) : Dp K H (.ref a) (.tuple [.int p, .int q]) := .tup h (.cons (.int p) (.cons (.int q) .nil))
theorem dp4 {H : Hp} {a : Addr} {p q r s : Int} (h : SqT K H a [.int p, .int q, .int r, .int s]) : Dp K H (.ref a) (.tuple [.int p, .int q, .int r, .int s]) := .tup h (.cons (.int p) (.cons (.int q) (.cons (.int r) (.cons (.int s) .nil))))
theorem eq2 (p q r s : Int) : PyData.eqv (.tuple [.int p, .int q]) (.tuple [.int r, .int s]) = (decide (p = r) && decide (q = s)) := by
 show (p == r && (q == s && true)) = _
 rw [Bool.and_true, Bool.beq_eq_decide_eq, Bool.beq_eq_decide_eq]
theorem w_neT {H : Hp} {Q : VK} {a b : Addr} {p q r s : Int} (ha : SqT K H a [.int p, .int q]) (hb : SqT K H b [.int r, .int s]) (k : Q (.bl (!(decide (p = r) && decide (q = s)))) H) : rNeD K (.ref a) (.ref b) H Q :=
 ⟨_, _, dp2 ha, dp2 hb, rfl, rfl, by rw [eq2]; exact k⟩
theorem w_eqT {H : Hp} {Q : VK} {a b : Addr} {p q r s : Int} (ha : SqT K H a [.int p, .int q]) (hb : SqT K H b [.int r, .int s]) (k : Q (.bl (decide (p = r) && decide (q = s))) H) : rEqD K (.ref a) (.ref b) H Q :=
 ⟨_, _, dp2 ha, dp2 hb, rfl, rfl, by rw [eq2]; exact k⟩
theorem eq4 (p q r s p' q' r' s' : Int) : PyData.eqv (.tuple [.int p, .int q, .int r, .int s]) (.tuple [.int p', .int q', .int r', .int s']) = (decide (p = p') && (decide (q = q') && (decide (r = r') && decide (s = s')))) := by
 show (p == p' && (q == q' && (r == r' && (s == s' && true)))) = _
 rw [Bool.and_true, Bool.beq_eq_decide_eq, Bool.beq_eq_decide_eq, Bool.beq_eq_decide_eq, Bool.beq_eq_decide_eq]
theorem w_in2 {H : Hp} {Q : VK} {t : Addr} {c p q : Int} (ht : SqT K H t [.int p, .int q]) (k : Q (.bl (decide (c = p) || decide (c = q))) H) : rIn K false (.int c) (.ref t) H Q := by
 refine ⟨t, _, rfl, .inr ht, rfl, rfl, ?_⟩
 have e : inV (.int c) [.int p, .int q] = (decide (c = p) || decide (c = q)) := by
   show (p == c || (q == c || false)) = _
   rw [Bool.or_false, Bool.beq_eq_decide_eq, Bool.beq_eq_decide_eq, Bool.eq_iff_iff]
   simp only [Bool.or_eq_true, decide_eq_true_eq]
   omega
 rw [e.symm] at k
 exact k
def StT (K : PySem.W.Frag) (H : Hp) (a : Addr) (s : State) : Prop := SqT K H a [.int s.x, .int s.y, .int s.vx, .int s.vy]
def fieldFs (w h : Nat) : List (Str × V) := [("width", .int w), ("height", .int h), ("stride", .int (w + 3)), ("everywhere", .int (every w h))]
def FieldAt (T : Txt K mg) (H : Hp) (f : Addr) (w h : Nat) : Prop := ∃ dx, H f = some (.ins T.places.Field.A dx (fieldFs w h))
theorem FieldAt.mono {T : Txt K mg} {H H' : Hp} (s : Same H H') {f : Addr} {w h : Nat} (F : FieldAt T H f w h) : FieldAt T H' f w h := by
 obtain ⟨dx, e⟩ := F
 exact ⟨dx, s _ _ e⟩
structure FieldP (T : Txt K mg) (H : Hp) (f : Addr) (w h : Nat) : Prop where
 w32 : w ≤ 32
 h32 : h ≤ 32
 at_ : ∃ dx fs, H f = some (.ins T.places.Field.A dx fs) ∧ fs.lookup ("width" : Str) = some (.int w) ∧ fs.lookup ("height" : Str) = some (.int h) ∧ fs.lookup ("stride" : Str) = some (.int (w + 3))
theorem FieldAt.p {T : Txt K mg} {H : Hp} {f : Addr} {w h : Nat} (F : FieldAt T H f w h) (hw : w ≤ 32) (hh : h ≤ 32) : FieldP T H f w h := by
 obtain ⟨dx, e⟩ := F
 exact ⟨hw, hh, dx, _, e, rfl, rfl, rfl⟩
theorem r_width {T : Txt K mg} {H : Hp} {f : Addr} {w h : Nat} {Q : VK} (F : FieldP T H f w h) (q : Q (.int w) H) : FldR K "width" (.ref f) H Q := by
 obtain ⟨dx, fs, e, e1, e2, e3⟩ := F.at_
 exact w_fldR e T.places.Field.C T.places.Field.na.1 e1 q
theorem r_height {T : Txt K mg} {H : Hp} {f : Addr} {w h : Nat} {Q : VK} (F : FieldP T H f w h) (q : Q (.int h) H) : FldR K "height" (.ref f) H Q := by
 obtain ⟨dx, fs, e, e1, e2, e3⟩ := F.at_
 exact w_fldR e T.places.Field.C T.places.Field.na.2.1 e2 q
theorem r_stride {T : Txt K mg} {H : Hp} {f : Addr} {w h : Nat} {Q : VK} (F : FieldP T H f w h) (q : Q (.int (w + 3)) H) : FldR K "stride" (.ref f) H Q := by
 obtain ⟨dx, fs, e, e1, e2, e3⟩ := F.at_
 exact w_fldR e T.places.Field.C T.places.Field.na.2.2.1 e3 q
theorem r_every {T : Txt K mg} {H : Hp} {f : Addr} {w h : Nat} {Q : VK} (F : FieldAt T H f w h) (q : Q (.int (every w h)) H) : FldR K "everywhere" (.ref f) H Q := by
 obtain ⟨dx, e⟩ := F
 exact w_fldR e T.places.Field.C T.places.Field.na.2.2.2.1 rfl q
theorem qbl {Q : VK} {H : Hp} {b b' : Bool} (k : Q (.bl b) H) (e : b = b') : Q (.bl b') H := e ▸ k
theorem qint {Q : VK} {H : Hp} {b b' : Int} (k : Q (.int b) H) (e : b = b') : Q (.int b') H := e ▸ k
theorem w_mul {Q : VK} {H : Hp} {a b : Int} (h : (-(2 ^ 64) < a ∧ a < 2 ^ 64) ∨ (-(2 ^ 64) < b ∧ b < 2 ^ 64)) (q : Q (.int (a * b)) H) : rI CMul (fun i j => V.int (i * j)) (.int a) (.int b) H Q := ⟨a, b, rfl, rfl, h, q⟩
theorem w_div {Q : VK} {H : Hp} {a b : Int} (h : 0 < b ∧ b < 1073741824) (q : Q (.int (a / b)) H) : rI CDiv (fun i j => V.int (i / j)) (.int a) (.int b) H Q := ⟨a, b, rfl, rfl, h, q⟩
theorem w_mod {Q : VK} {H : Hp} {a b : Int} (h : 0 < b) (q : Q (.int (a % b)) H) : rI (fun _ j => 0 < j) (fun i j => V.int (i % j)) (.int a) (.int b) H Q := ⟨a, b, rfl, rfl, h, q⟩
theorem w_shl {Q : VK} {H : Hp} {S : Nat} {j : Int} (h0 : 0 ≤ j) (h1 : j ≤ 100000) (hS : S < 2 ^ 100000) (q : Q (.int ((S <<< j.toNat : Nat) : Int)) H) : rI CShl (fun i j => V.int (i * 2 ^ j.toNat)) (.int (S : Int)) (.int j) H Q := by
 refine ⟨_, _, rfl, rfl, ⟨h0, ?_⟩, ?_⟩
 · have := intBits_le (a := (S : Int)) (k := 100000) (by rw [Int.natAbs_natCast]; exact hS)
   have e : (2 : Int) ^ 27 = 134217728 := rfl
   omega
 · dsimp only
   rw [shl_nat]
   exact q
theorem w_shr {Q : VK} {H : Hp} {S : Nat} {j : Int} (h0 : 0 ≤ j) (q : Q (.int ((S >>> j.toNat : Nat) : Int)) H) : rI (fun _ j => 0 ≤ j) (fun i j => V.int (i / 2 ^ j.toNat)) (.int (S : Int)) (.int j) H Q := by
 refine ⟨_, _, rfl, rfl, h0, ?_⟩
 dsimp only
 rw [shr_nat]
 exact q
theorem w_band {Q : VK} {H : Hp} {S T : Nat} (q : Q (.int ((S &&& T : Nat) : Int)) H) : rI0 (fun i j => V.int (Builtin.bitAnd i j)) (.int (S : Int)) (.int (T : Int)) H Q := by
 refine ⟨_, _, rfl, rfl, ?_⟩
 dsimp only
 rw [and_nat]
 exact q
theorem w_bor {Q : VK} {H : Hp} {S T : Nat} (q : Q (.int ((S ||| T : Nat) : Int)) H) : rI0 (fun i j => V.int (Builtin.bitOr i j)) (.int (S : Int)) (.int (T : Int)) H Q := by
 refine ⟨_, _, rfl, rfl, ?_⟩
 dsimp only
 rw [or_nat]
 exact q
theorem w_bdif {Q : VK} {H : Hp} {S T : Nat} (q : Q (.int ((dif S T : Nat) : Int)) H) : rI0 (fun i j => V.int (Builtin.bitAnd i j)) (.int (S : Int)) (.int (Builtin.bitNot (T : Int))) H Q := by
 refine ⟨_, _, rfl, rfl, ?_⟩
 dsimp only
 rw [dif_nat]
 exact q
theorem rowB_small {left n : Nat} (h : left + n ≤ 32) : rowB left n < 2 ^ 100000 := by
 have b : rowB left n < 2 ^ 32 := by
   apply Nat.lt_pow_two_of_testBit
   intro i hi
   cases hb : (rowB left n).testBit i with
   | false => rfl
   | true =>
     have := rowB_lt (w := 32) h i hb
     omega
 exact Nat.lt_of_lt_of_le b (Nat.pow_le_pow_right (by decide) (by decide))
theorem inF_lt {w h S : Nat} (hS : InF w h S) (hw : w ≤ 32) (hh : h ≤ 32) : S < 2 ^ 100000 := by
 have b : S < 2 ^ 1120 := by
   apply Nat.lt_pow_two_of_testBit
   intro i hi
   cases hb : S.testBit i with
   | false => rfl
   | true =>
     exfalso
     obtain ⟨h1, h2⟩ := hS i hb
     have e := Nat.div_add_mod i (w + 3)
     have h3 : (w + 3) * (i / (w + 3)) ≤ 35 * 31 := Nat.mul_le_mul (by omega) (by omega)
     omega
 exact Nat.lt_of_lt_of_le b (Nat.pow_le_pow_right (by decide) (by decide))
end SPx
namespace SPx
open PySem PySem.Spec PyProof.Rows L2 SP
open Sr39 (Box)
open Sr40 (Burn Map_ State)
variable {K : PySem.W.Frag} {mg : Str → Option Value}
abbrev BoxT (K : PySem.W.Frag) (H : Hp) (a : Addr) (b : Box) : Prop := SqT K H a [.int b.x1, .int b.y1, .int b.x2, .int b.y2]
def BoxV (K : PySem.W.Frag) (H : Hp) (v : V) (b : Box) : Prop := ∃ a, v = .ref a ∧ BoxT K H a b
abbrev BoxVs (K : PySem.W.Frag) (H : Hp) : List V → List Box → Prop := Paired (BoxV K H)
theorem BoxV.mono {H H' : Hp} (s : Same H H') {v : V} {b : Box} (h : BoxV K H v b) : BoxV K H' v b := by
 obtain ⟨a, e, h⟩ := h
 exact ⟨a, e, s.tup h⟩
theorem BoxVs.mono {H H' : Hp} (s : Same H H') {xs : List V} {bs : List Box} (h : BoxVs K H xs bs) : BoxVs K H' xs bs := Paired.imp' (fun _ _ q => BoxV.mono s q) h
theorem BoxV.updL {H : Hp} {D : Addr} {ys : List V} {o : HO} {v : V} {b : Box} (h : BoxV K H v b) (hD : H D = some (.lst ys)) : BoxV K (upd H D o) v b := by
 obtain ⟨a, e, h⟩ := h
 exact ⟨a, e, h.updL hD⟩
theorem BoxVs.updL {H : Hp} {D : Addr} {ys : List V} {o : HO} {xs : List V} {bs : List Box} (h : BoxVs K H xs bs) (hD : H D = some (.lst ys)) : BoxVs K (upd H D o) xs bs := Paired.imp' (fun _ _ q => BoxV.updL q hD) h
def BoxL (K : PySem.W.Frag) (H : Hp) (l : Addr) (bs : List Box) : Prop := ∃ xs, SqL K H l xs ∧ BoxVs K H xs bs
theorem BoxL.mono {H H' : Hp} (s : Same H H') {l : Addr} {bs : List Box} (h : BoxL K H l bs) : BoxL K H' l bs := by
 obtain ⟨xs, h1, h2⟩ := h
 exact ⟨xs, s.seq h1, h2.mono s⟩
theorem boxes_of : ∀ (n : Nat) (ns : List Int), ns.length = 4 * n → (Sr41Neutral.boxes ns).length = n ∧ ∀ i, i < n → ∃ a b c d, (ns.drop (4 * i)).take 4 = [a, b, c, d] ∧ (Sr41Neutral.boxes ns)[i]? = some ⟨a, b, c, d⟩
 | 0, [], _ => ⟨rfl, fun i h => absurd h (by omega)⟩
 | 0, _ :: _, h => by simp at h
 | n + 1, a :: b :: c :: d :: r, h => by
   have h2 : r.length = 4 * n := by
     simp at h
     omega
   obtain ⟨e1, e2⟩ := boxes_of n r h2
   refine ⟨by show (Sr41Neutral.boxes r).length + 1 = n + 1; rw [e1], fun i hi => ?_⟩
   cases i with
   | zero => exact ⟨a, b, c, d, rfl, rfl⟩
   | succ i =>
     obtain ⟨a', b', c', d', e3, e4⟩ := e2 i (by omega)
     refine ⟨a', b', c', d', ?_, e4⟩
     have : 4 * (i + 1) = 4 * i + 4 := by omega
     rw [this]
     exact e3
 | n + 1, [], h => by simp at h
 | n + 1, [_], h => by simp at h; omega
 | n + 1, [_, _], h => by simp at h; omega
 | n + 1, [_, _, _], h => by simp at h; omega
theorem cut_in {xs : List V} {a b : Nat} (h : a ≤ b) (hb : b ≤ xs.length) : cutV xs (some (a : Int)) (some (b : Int)) = (xs.drop a).take (b - a) := by
 unfold cutV
 rw [HT.sIx_nat, HT.sIx_nat, Nat.min_eq_left hb, Nat.min_eq_left (Nat.le_trans h hb)]
def chartFs (f hd pt bx : Addr) : List (Str × V) := [("field", .ref f), ("heading", .ref hd), ("port", .ref pt), ("boxes", .ref bx)]
structure ChartIs (T : Txt K mg) (H : Hp) (c : Addr) (m : Map_) (f hd pt bx : Addr) : Prop where
 at_ : ∃ dx, H c = some (.ins T.chart.Chart.A dx (chartFs f hd pt bx))
 field : FieldAt T H f m.w m.h
 fp : FieldP T H f m.w m.h
 head : SqT K H hd [.int (Sr40.dx m.dir), .int (Sr40.dy m.dir)]
 port : SqT K H pt [.int m.px, .int m.py]
 boxes : BoxL K H bx m.boxes
theorem FieldP.mono {T : Txt K mg} {H H' : Hp} (s : Same H H') {f : Addr} {w h : Nat} (F : FieldP T H f w h) : FieldP T H' f w h := by
 obtain ⟨dx, fs, e, r⟩ := F.at_
 exact ⟨F.w32, F.h32, dx, fs, s _ _ e, r⟩
theorem ChartIs.mono {T : Txt K mg} {H H' : Hp} (s : Same H H') {c : Addr} {m : Map_} {f hd pt bx : Addr} (C : ChartIs T H c m f hd pt bx) : ChartIs T H' c m f hd pt bx := by
 obtain ⟨dx, e⟩ := C.at_
 exact ⟨⟨dx, s _ _ e⟩, C.field.mono s, C.fp.mono s, s.tup C.head, s.tup C.port, C.boxes.mono s⟩
theorem r_field {T : Txt K mg} {H : Hp} {c : Addr} {m : Map_} {f hd pt bx : Addr} {Q : VK} (C : ChartIs T H c m f hd pt bx) (q : Q (.ref f) H) : FldR K "field" (.ref c) H Q := by
 obtain ⟨dx, e⟩ := C.at_
 exact w_fldR e T.chart.Chart.C T.chart.Chart.na.1 rfl q
theorem r_heading {T : Txt K mg} {H : Hp} {c : Addr} {m : Map_} {f hd pt bx : Addr} {Q : VK} (C : ChartIs T H c m f hd pt bx) (q : Q (.ref hd) H) : FldR K "heading" (.ref c) H Q := by
 obtain ⟨dx, e⟩ := C.at_
 exact w_fldR e T.chart.Chart.C T.chart.Chart.na.2.1 rfl q
theorem r_port {T : Txt K mg} {H : Hp} {c : Addr} {m : Map_} {f hd pt bx : Addr} {Q : VK} (C : ChartIs T H c m f hd pt bx) (q : Q (.ref pt) H) : FldR K "port" (.ref c) H Q := by
 obtain ⟨dx, e⟩ := C.at_
 exact w_fldR e T.chart.Chart.C T.chart.Chart.na.2.2.1 rfl q
theorem r_boxes {T : Txt K mg} {H : Hp} {c : Addr} {m : Map_} {f hd pt bx : Addr} {Q : VK} (C : ChartIs T H c m f hd pt bx) (q : Q (.ref bx) H) : FldR K "boxes" (.ref c) H Q := by
 obtain ⟨dx, e⟩ := C.at_
 exact w_fldR e T.chart.Chart.C T.chart.Chart.na.2.2.2.1 rfl q
theorem FieldAt.meth {T : Txt K mg} {H : Hp} {f : Addr} {w h : Nat} {R : Prop} {x : Str} (F : FieldAt T H f w h) (hx : (fieldFs w h).lookup x = none) (q : R) : MethR T.places.Field.A x (.ref f) H R := by
 obtain ⟨dx, e⟩ := F
 exact w_methR e hx q
theorem ways_K (T : Txt K mg) {k : Nat} (hk : k ≤ 3) : ∃ xs a, KTup K T.chart.WAYS.a xs ∧ xs.length = 4 ∧ xs[k]? = some (.ref a) ∧ ∀ H, SqT K H a [.int (Sr40.dx k), .int (Sr40.dy k)] := by
 have h := T.chart.WAYS.k
 cases h with
 | tup h1 h2 =>
   have q := kcs_burns (bs := [⟨1, 0⟩, ⟨0, 1⟩, ⟨-1, 0⟩, ⟨0, -1⟩]) h2
   have hl : (_ : List V).length = 4 := Paired.length (q fun _ => none)
   have go : ∀ b : Burn, ([⟨1, 0⟩, ⟨0, 1⟩, ⟨-1, 0⟩, ⟨0, -1⟩] : List Burn)[k]? = some b → ∃ a, (_ : List V)[k]? = some (V.ref a) ∧ ∀ H, SqT K H a [.int b.a, .int b.b] := fun b hb => by
     have two := fun H => paired_get (q H) hb
     obtain ⟨v, hv, a, rfl, _⟩ := two fun _ => none
     refine ⟨a, hv, fun H => ?_⟩
     obtain ⟨v', hv', a', e, r⟩ := two H
     rw [hv] at hv'
     cases hv'
     cases e
     exact r
   match k, hk with
   | 0, _ => obtain ⟨a, h3, h4⟩ := go ⟨1, 0⟩ rfl; exact ⟨_, a, h1, hl, h3, h4⟩
   | 1, _ => obtain ⟨a, h3, h4⟩ := go ⟨0, 1⟩ rfl; exact ⟨_, a, h1, hl, h3, h4⟩
   | 2, _ => obtain ⟨a, h3, h4⟩ := go ⟨-1, 0⟩ rfl; exact ⟨_, a, h1, hl, h3, h4⟩
   | 3, _ => obtain ⟨a, h3, h4⟩ := go ⟨0, -1⟩ rfl; exact ⟨_, a, h1, hl, h3, h4⟩
end SPx
namespace SPx
open PySem PySem.Spec PyProof.Rows L2 SP
local macro_rules | `(tactic| walk_at "sp") => `(tactic| first
  | ((with_reducible show tVar _ _ _ _); refine w_var rfl ?_)
  | with_reducible refine w_C ?_
  | with_reducible refine w_op ?_
  | with_reducible refine w_un ?_
  | with_reducible refine w_bdif ?_
  | with_reducible refine w_band ?_
  | with_reducible refine w_bor ?_
  | with_reducible refine w_rI0 ?_
  | with_reducible refine w_mul (.inl ⟨by decide, by decide⟩) ?_
  | with_reducible refine w_mul (.inr ⟨by decide, by decide⟩) ?_
  | with_reducible refine w_mul (by omega) ?_
  | with_reducible refine w_div ⟨by decide, by decide⟩ ?_
  | with_reducible refine w_mod (by decide) ?_
  | with_reducible refine w_max ?_
  | with_reducible refine w_isN ?_
  | with_reducible refine w_tupL (by assumption) ?_
  | with_reducible refine w_min ?_
  | with_reducible refine w_lenL (by assumption) ?_
  | with_reducible refine w_lenT (by assumption) ?_
  | with_reducible refine w_fld ?_
  | with_reducible refine r_width (by assumption) ?_
  | with_reducible refine r_height (by assumption) ?_
  | with_reducible refine r_stride (by assumption) ?_
  | with_reducible refine r_every (by assumption) ?_
  | with_reducible refine w_rU ?_
  | with_reducible refine w_eqI ?_
  | with_reducible refine w_neI ?_
  | with_reducible refine w_chain ?_
  | with_reducible refine w_chain3 ?_
  | with_reducible refine w_andV ?_
  | with_reducible refine w_notV ?_
  | with_reducible refine w_bl ?_
  | ((with_reducible show rIxT _ _ _ _ _); refine w_ixT (by assumption) rfl ?_)
  | ((with_reducible show rIxL _ _ _ _ _); refine w_ixL (by assumption) rfl ?_)
  | with_reducible refine r_field (by assumption) ?_
  | with_reducible refine r_heading (by assumption) ?_
  | with_reducible refine r_port (by assumption) ?_
  | with_reducible refine r_boxes (by assumption) ?_
  | with_reducible refine FieldAt.meth (by assumption) rfl ?_
  | with_reducible refine w_cons ?_
  | with_reducible refine w_nil ?_
  | with_reducible refine w_tup ?_
  | with_reducible refine w_lst ?_
  | with_reducible refine w_CB ?_
  | with_reducible refine w_call ?_
  | with_reducible refine w_seq ?_
  | with_reducible refine w_next ?_
  | with_reducible refine w_ret ?_
  | with_reducible refine w_drop ?_
  | with_reducible refine w_ifS ?_
  | with_reducible refine w_asg ?_
  | with_reducible refine w_name ?_
  | with_reducible refine w_for ?_
  | with_reducible refine w_rng1 ?_
  | with_reducible refine w_rng2 ?_
  | with_reducible refine w_rng3 ?_
  | with_reducible refine w_iL ?_
  | with_reducible refine w_iT ?_
  | with_reducible refine w_brk ?_
  | with_reducible refine w_sfld ?_
  | with_reducible refine w_meth ?_
  | with_reducible refine w_make ?_
  | with_reducible refine w_lc ?_
  | with_reducible refine w_yes ?_
  | with_reducible refine iteT ?_
  | with_reducible refine iteF ?_
  | with_reducible refine iteNF ?_
  | with_reducible refine iteNT ?_
  | with_reducible refine w_sl ?_
  | with_reducible refine w_part ?_
  | with_reducible refine w_partR ?_
  | with_reducible refine w_nopart ?_
  | with_reducible refine w_test ?_
  | with_reducible refine w_B ?_
  | with_reducible refine w_and ?_
  | with_reducible refine w_or ?_
  | with_reducible refine w_not ?_)
local macro_rules | `(tactic| walk_at "if") => `(tactic| repeat' (first | walk_at "sp" | refine ite2 (fun _ => ?_) (fun _ => ?_)))
local macro_rules | `(tactic| walk_at "go") => `(tactic| repeat walk_at "sp")
section
variable {P : Program} {w : World} {K : PySem.W.Frag} {mg : Str → Option Value} {base : Heap}
theorem sc_is_speed : FnScope ["vx", "vy"] ["vx", "vy"] (defScope (top 4)) := fS
def sp_is_speed : Sp := fun vs H Q _ => ∃ vx vy : Int, vs = [.int vx, .int vy] ∧ Q (.bl (isSp vx vy)) H
theorem ok_is_speed (T : Txt K mg) : FnOk P w K mg base CX0 1 T.motion.is_speed.a T.motion.is_speed.fd ["vx", "vy"] (sp_is_speed) := by
 refine T.motion.is_speed.F.ok sc_is_speed (fun _ _ _ _ h => by obtain ⟨vx, vy, rfl, _⟩ := h; rfl) (fun cdv A outer s H vs Q E hr h => ?_)
 obtain ⟨vx, vy, rfl, k⟩ := h
 refine ⟨_, (pss_one (ps_ret (pe_and (pe_chain op_le op_le (pe_un un_neg (pe_glob rfl T.motion.FASTEST.g T.motion.FASTEST.r)) (pv 0) (pe_glob rfl T.motion.FASTEST.g T.motion.FASTEST.r)) (pe_one (pe_chain op_le op_le (pe_un un_neg (pe_glob rfl T.motion.FASTEST.g T.motion.FASTEST.r)) (pv 1) (pe_glob rfl T.motion.FASTEST.g T.motion.FASTEST.r)))))), ?_⟩
 try dsimp only [cxOf]
 walk_at "if"
 all_goals (refine qbl k ?_; unfold isSp; simp_all <;> omega)
theorem sc_speed_number : FnScope ["vx", "vy"] ["vx", "vy"] (defScope (top 5)) := fS
def sp_speed_number : Sp := fun vs H Q _ => ∃ vx vy : Int, vs = [.int vx, .int vy] ∧ Q (.int (7 * (vx + 3) + vy + 3)) H
theorem ok_speed_number (T : Txt K mg) : FnOk P w K mg base CX0 1 T.motion.speed_number.a T.motion.speed_number.fd ["vx", "vy"] (sp_speed_number) := by
 refine T.motion.speed_number.F.ok sc_speed_number (fun _ _ _ _ h => by obtain ⟨vx, vy, rfl, _⟩ := h; rfl) (fun cdv A outer s H vs Q E hr h => ?_)
 obtain ⟨vx, vy, rfl, k⟩ := h
 refine ⟨_, (pss_one (ps_ret (pe_op op_add (pe_op op_add (pe_op op_mul pe_int (pe_op op_add (pv 0) pe_int)) (pv 1)) pe_int))), ?_⟩
 try dsimp only [cxOf]
 walk_at "go"
 exact k
theorem sc_speed_parts : FnScope ["number"] ["number"] (defScope (top 6)) := fS
def sp_speed_parts : Sp := fun vs H Q _ => ∃ n : Int, vs = [.int n] ∧ ∀ c H', H c = none → H' = upd H c (.tup [.int (n / 7 - 3), .int (n % 7 - 3)]) → Q (.ref c) H'
theorem ok_speed_parts (T : Txt K mg) : FnOk P w K mg base CX0 1 T.motion.speed_parts.a T.motion.speed_parts.fd ["number"] (sp_speed_parts) := by
 refine T.motion.speed_parts.F.ok sc_speed_parts (fun _ _ _ _ h => by obtain ⟨n, rfl, _⟩ := h; rfl) (fun cdv A outer s H vs Q E hr h => ?_)
 obtain ⟨n, rfl, k⟩ := h
 refine ⟨_, (pss_one (ps_ret (pe_tup (pa_cons (pe_op op_sub (pe_op op_fdiv (pv 0) pe_int) pe_int) (pa_cons (pe_op op_sub (pe_op op_mod (pv 0) pe_int) pe_int) pa_nil))))), ?_⟩
 try dsimp only [cxOf]
 walk_at "go"
 exact w_small (by show 2 ≤ 1000; decide) fun c hc => k c _ hc rfl
theorem sc_behind_burn : FnScope ["state", "come"] ["state", "come"] (defScope (top 9)) := fS
def sp_behind_burn (K : PySem.W.Frag) : Sp := fun vs H Q _ => ∃ (a b : Addr) (x y vx vy p q : Int), vs = [.ref a, .ref b] ∧ SqT K H a [.int x, .int y, .int vx, .int vy] ∧ SqT K H b [.int p, .int q] ∧ ∀ c H', H c = none → H' = upd H c (.tup [.int x, .int y, .int (vx + p), .int (vy + q)]) → Q (.ref c) H'
theorem ok_behind_burn (T : Txt K mg) : FnOk P w K mg base CX0 1 T.motion.behind_burn.a T.motion.behind_burn.fd ["state", "come"] (sp_behind_burn K) := by
 refine T.motion.behind_burn.F.ok sc_behind_burn (fun _ _ _ _ h => by obtain ⟨a, b, x, y, vx, vy, p, q, rfl, _⟩ := h; rfl) (fun cdv A outer s H vs Q E hr h => ?_)
 obtain ⟨a, b, x, y, vx, vy, p, q, rfl, ha, hb, k⟩ := h
 refine ⟨_, (pss_one (ps_ret (pe_tup (pa_cons (xT K (pv 0) pe_int) (pa_cons (xT K (pv 0) pe_int) (pa_cons (pe_op op_add (xT K (pv 0) pe_int) (xT K (pv 1) pe_int)) (pa_cons (pe_op op_add (xT K (pv 0) pe_int) (xT K (pv 1) pe_int)) pa_nil))))))), ?_⟩
 try dsimp only [cxOf]
 walk_at "go"
 exact w_small (by show 4 ≤ 1000; decide) fun c hc => k c _ hc rfl
theorem sc_behind_tick : FnScope ["state", "come", "vx", "vy"] ["state", "come"] (defScope (top 10)) := fS
def sp_behind_tick (K : PySem.W.Frag) : Sp := fun vs H Q _ => ∃ (a b : Addr) (x y vx vy p q : Int), vs = [.ref a, .ref b] ∧ SqT K H a [.int x, .int y, .int vx, .int vy] ∧ SqT K H b [.int p, .int q] ∧ ∀ c H', H c = none → H' = upd H c (.tup [.int (x + (vx + p)), .int (y + (vy + q)), .int (vx + p), .int (vy + q)]) → Q (.ref c) H'
theorem ok_behind_tick (T : Txt K mg) : FnOk P w K mg base CX0 1 T.motion.behind_tick.a T.motion.behind_tick.fd ["state", "come"] (sp_behind_tick K) := by
 refine T.motion.behind_tick.F.ok sc_behind_tick (fun _ _ _ _ h => by obtain ⟨a, b, x, y, vx, vy, p, q, rfl, _⟩ := h; rfl) (fun cdv A outer s H vs Q E hr h => ?_)
 obtain ⟨a, b, x, y, vx, vy, p, q, rfl, ha, hb, k⟩ := h
 refine ⟨_, (pss_cons (sA 2 sc_behind_tick.nd (pe_op op_add (xT K (pv 0) pe_int) (xT K (pv 1) pe_int)))
  (pss_cons (sA 3 sc_behind_tick.nd (pe_op op_add (xT K (pv 0) pe_int) (xT K (pv 1) pe_int)))
  (pss_one (ps_ret (pe_tup (pa_cons (pe_op op_add (xT K (pv 0) pe_int) (pv 2)) (pa_cons (pe_op op_add (xT K (pv 0) pe_int) (pv 3)) (pa_cons (pv 2) (pa_cons (pv 3) pa_nil))))))))), ?_⟩
 try dsimp only [cxOf]
 walk_at "go"
 exact w_small (by show 4 ≤ 1000; decide) fun c hc => k c _ hc rfl
theorem sc_Field_has : FnScope ["self", "x", "y"] ["self", "x", "y"] (defScope (inClass (top 12) 1)) := fS
def sp_Field_has (T : Txt K mg) : Sp := fun vs H Q _ => ∃ (f : Addr) (w h : Nat) (x y : Int), vs = [.ref f, .int x, .int y] ∧ FieldP T H f w h ∧ Q (.bl (inFld w h x y)) H
theorem ok_Field_has (T : Txt K mg) : FnOk P w K mg base CX0 1 T.places.Field_has.a T.places.Field_has.fd ["self", "x", "y"] (sp_Field_has T) := by
 refine T.places.Field_has.F.ok sc_Field_has (fun _ _ _ _ h => by obtain ⟨f, w, h, x, y, rfl, _⟩ := h; rfl) (fun cdv A outer s H vs Q E hr h => ?_)
 obtain ⟨f, w, h, x, y, rfl, hF, k⟩ := h
 refine ⟨_, (pss_one (ps_ret (pe_and (pe_chain op_le op_lt pe_int (pv 1) (fldK K (pv 0) rfl)) (pe_one (pe_chain op_le op_lt pe_int (pv 2) (fldK K (pv 0) rfl)))))), ?_⟩
 try dsimp only [cxOf]
 walk_at "if"
 all_goals (refine qbl k ?_; unfold inFld; simp_all <;> omega)
theorem sc_Field_place : FnScope ["self", "x", "y"] ["self", "x", "y"] (defScope (inClass (top 12) 2)) := fS
def sp_Field_place (T : Txt K mg) : Sp := fun vs H Q _ => ∃ (f : Addr) (w h : Nat) (x y : Int), vs = [.ref f, .int x, .int y] ∧ FieldP T H f w h ∧ (0 ≤ x ∧ x < w ∧ 0 ≤ y ∧ y < h) ∧ Q (.int ((placeB w x.toNat y.toNat : Nat) : Int)) H
theorem ok_Field_place (T : Txt K mg) : FnOk P w K mg base CX0 1 T.places.Field_place.a T.places.Field_place.fd ["self", "x", "y"] (sp_Field_place T) := by
 refine T.places.Field_place.F.ok sc_Field_place (fun _ _ _ _ h => by obtain ⟨f, w, h, x, y, rfl, _⟩ := h; rfl) (fun cdv A outer s H vs Q E hr h => ?_)
 obtain ⟨f, w, h, x, y, rfl, hF, hx, k⟩ := h
 refine ⟨_, (pss_one (ps_ret (pe_op op_shlB pe_int (pe_op op_add (pe_op op_mul (pv 2) (fldK K (pv 0) rfl)) (pv 1))))), ?_⟩
 try dsimp only [cxOf]
 have h1 := hF.w32
 have h2 := hF.h32
 walk_at "go"
 refine w_shl (S := 1) (Int.add_nonneg (Int.mul_nonneg hx.2.2.1 (by omega)) hx.1) ?_ (Nat.one_lt_two_pow (by decide)) ?_
 · have := Int.mul_le_mul (show y ≤ 32 by omega) (show (w : Int) + 3 ≤ 35 by omega) (by omega) (by decide)
   omega
 · refine qint k ?_
   have e1 : (y * ((w : Int) + 3) + x).toNat = y.toNat * (w + 3) + x.toNat := by
     have h3 : ((y.toNat * (w + 3) + x.toNat : Nat) : Int) = y * (w + 3) + x := by
       rw [Int.natCast_add, Int.natCast_mul, Int.toNat_of_nonneg hx.2.2.1, Int.toNat_of_nonneg hx.1]
       rfl
     omega
   rw [e1]
   rfl
end
section
variable {P : Program} {w : World} {K : PySem.W.Frag} {mg : Str → Option Value} {base : Heap}
theorem sc_Field_block : FnScope ["self", "x1", "y1", "x2", "y2", "left", "right", "row", "places", "y"] ["self", "x1", "y1", "x2", "y2"] (defScope (inClass (top 12) 3)) := fS
def sp_Field_block (T : Txt K mg) : Sp := fun vs H Q _ => ∃ (f : Addr) (w h : Nat) (x1 y1 x2 y2 : Int), vs = [.ref f, .int x1, .int y1, .int x2, .int y2] ∧ FieldP T H f w h ∧ (-1000 ≤ y1 ∧ y1 ≤ 1000 ∧ -1000 ≤ y2 ∧ y2 ≤ 1000) ∧ Q (.int ((block w h x1 y1 x2 y2 : Nat) : Int)) H
theorem ok_Field_block (T : Txt K mg) : FnOk P w K mg base CX0 1 T.places.Field_block.a T.places.Field_block.fd ["self", "x1", "y1", "x2", "y2"] (sp_Field_block T) := by
 refine T.places.Field_block.F.ok sc_Field_block (fun _ _ _ _ h => by obtain ⟨f, w, h, x1, y1, x2, y2, rfl, _⟩ := h; rfl) (fun cdv A outer s H vs Q E hr h => ?_)
 obtain ⟨f, w, h, x1, y1, x2, y2, rfl, hF, hb, k⟩ := h
 refine ⟨_, (pss_cons (sA 5 sc_Field_block.nd (pe_callB (cm_max rfl) rfl T.n_max boot_max (pa_cons (pv 1) (pa_cons pe_int pa_nil))))
  (pss_cons (sA 6 sc_Field_block.nd (pe_callB (cm_min rfl) rfl T.n_min boot_min (pa_cons (pv 3) (pa_cons (pe_op op_sub (fldK K (pv 0) rfl) pe_int) pa_nil))))
  (pss_cons (ps_if (pt_cmpR op_gt (pv 5) (pv 6) (nomark _)) (pss_one (ps_ret pe_int)) pss_nil)
  (pss_cons (sA 7 sc_Field_block.nd (pe_op op_shlB (pe_op op_sub (pe_op op_shlB pe_int (pe_op op_add (pe_op op_sub (pv 6) (pv 5)) pe_int)) pe_int) (pv 5)))
  (pss_cons (sA 8 sc_Field_block.nd pe_int)
  (pss_cons (ps_for PassesOwn.never rfl (pi_range2 rfl T.n_range (pa_cons (pe_callB (cm_max rfl) rfl T.n_max boot_max (pa_cons (pv 2) (pa_cons pe_int pa_nil))) (pa_cons (pe_op op_add (pe_callB (cm_min rfl) rfl T.n_min boot_min (pa_cons (pv 4) (pa_cons (pe_op op_sub (fldK K (pv 0) rfl) pe_int) pa_nil))) pe_int) pa_nil))) (gN 9 sc_Field_block.nd) (pss_one (sA 8 sc_Field_block.nd (pe_op op_or (pv 8) (pe_op op_shlB (pv 7) (pe_op op_mul (pv 9) (fldK K (pv 0) rfl)))))))
  (pss_one (ps_ret (pv 8))))))))), ?_⟩
 try dsimp only [cxOf]
 have h1 := hF.w32
 have h2 := hF.h32
 walk_at "go"
 refine ite2 (fun hlr => ?_) (fun hlr => ?_)
 · have hlr := of_decide_eq_true hlr
   walk_at "go"
   refine qint k ?_
   unfold block
   dsimp only
   rw [if_pos hlr]
   rfl
 · have hlr : ¬ min x2 ((w : Int) - 1) < max x1 0 := fun e => hlr (decide_eq_true e)
   walk_at "go"
   refine w_shl (S := 1) (by omega) (by omega) (Nat.one_lt_two_pow (by decide)) ?_
   walk_at "go"
   rw [show (((1 <<< (min x2 ((w : Int) - 1) - max x1 0 + 1).toNat : Nat) : Int) - 1) = ((2 ^ (min x2 ((w : Int) - 1) - max x1 0 + 1).toNat - 1 : Nat) : Int) by
     rw [Nat.one_shiftLeft]
     have := Nat.one_le_two_pow (n := (min x2 ((w : Int) - 1) - max x1 0 + 1).toNat)
     omega]
   refine w_shl (by omega) (by omega) ?_ ?_
   · refine Nat.lt_of_le_of_lt (Nat.sub_le _ _) ?_
     exact Nat.pow_lt_pow_right (by decide) (by omega)
   have hrow : (2 ^ (min x2 ((w : Int) - 1) - max x1 0 + 1).toNat - 1) <<< (max x1 0).toNat = rowB (max x1 0).toNat (min x2 ((w : Int) - 1) - max x1 0 + 1).toNat := rfl
   rw [hrow]
   have hs := rowB_small (left := (max x1 0).toNat) (n := (min x2 ((w : Int) - 1) - max x1 0 + 1).toNat) (by omega)
   have kk : Q (.int ((stack (rowB (max x1 0).toNat (min x2 ((w : Int) - 1) - max x1 0 + 1).toNat) (w + 3) (max y1 0).toNat (min y2 ((h : Int) - 1) + 1 - max y1 0).toNat : Nat) : Int)) H := by
     refine qint k ?_
     unfold block
     dsimp only
     rw [if_neg hlr]
   generalize rowB (max x1 0).toNat (min x2 ((w : Int) - 1) - max x1 0 + 1).toNat = row at hs kk ⊢
   generalize max x1 0 = left
   generalize min x2 ((w : Int) - 1) = right
   walk_at "go"
   refine ⟨_, _, rfl, ⟨by omega, by omega, by omega, by omega⟩, ?_⟩
   refine for_range (fun i σ' H' => H' = H ∧ ∃ v, σ' = [some (.ref f), some (.int x1), some (.int y1), some (.int x2), some (.int y2), some (.int left), some (.int right), some (.int row), some (.int ((stack row (w + 3) (max y1 0).toNat i : Nat) : Int)), v]) ⟨rfl, _, rfl⟩ ?_ ?_
   · rintro i σ' H' hi ⟨rfl, v, rfl⟩
     walk_at "go"
     refine w_shl (Int.mul_nonneg (by omega) (by omega)) ?_ hs ?_
     · have := Int.mul_le_mul (show max y1 0 + (i : Int) ≤ 1032 by omega) (show (w : Int) + 3 ≤ 35 by omega) (by omega) (by decide)
       omega
     have e : ((max y1 0 + (i : Int)) * ((w : Int) + 3)).toNat = ((max y1 0).toNat + i) * (w + 3) := by
       have q : ((((max y1 0).toNat + i) * (w + 3) : Nat) : Int) = (max y1 0 + (i : Int)) * ((w : Int) + 3) := by
         rw [Int.natCast_mul, Int.natCast_add, Int.toNat_of_nonneg (by omega)]
         rfl
       omega
     rw [e]
     walk_at "go"
     exact ⟨rfl, _, rfl⟩
   · rintro σ' H' ⟨rfl, v, rfl⟩
     walk_at "go"
     exact kk
theorem sc_Field_before : FnScope ["self", "places", "vx", "vy", "step"] ["self", "places", "vx", "vy"] (defScope (inClass (top 12) 4)) := fS
def sp_Field_before (T : Txt K mg) : Sp := fun vs H Q _ => ∃ (f : Addr) (w h S : Nat) (vx vy : Int), vs = [.ref f, .int (S : Int), .int vx, .int vy] ∧ FieldAt T H f w h ∧ FieldP T H f w h ∧ InF w h S ∧ (-3 ≤ vx ∧ vx ≤ 3 ∧ -3 ≤ vy ∧ vy ≤ 3) ∧ Q (.int ((before w h S vx vy : Nat) : Int)) H
theorem ok_Field_before (T : Txt K mg) : FnOk P w K mg base CX0 1 T.places.Field_before.a T.places.Field_before.fd ["self", "places", "vx", "vy"] (sp_Field_before T) := by
 refine T.places.Field_before.F.ok sc_Field_before (fun _ _ _ _ h => by obtain ⟨f, w, h, S, vx, vy, rfl, _⟩ := h; rfl) (fun cdv A outer s H vs Q E hr h => ?_)
 obtain ⟨f, w, h, S, vx, vy, rfl, hG, hF, hS, hv, k⟩ := h
 refine ⟨_, (pss_cons (sA 4 sc_Field_before.nd (pe_op op_add (pe_op op_mul (pv 3) (fldK K (pv 0) rfl)) (pv 2)))
  (pss_cons (ps_if (pt_cmpR op_ge (pv 4) pe_int (nomark _)) (pss_one (ps_ret (pe_op op_and (pe_op op_shr (pv 1) (pv 4)) (fldK K (pv 0) rfl)))) pss_nil)
  (pss_one (ps_ret (pe_op op_and (pe_op op_shlB (pv 1) (pe_un un_neg (pv 4))) (fldK K (pv 0) rfl)))))), ?_⟩
 try dsimp only [cxOf]
 have h1 := hF.w32
 have h2 := hF.h32
 walk_at "go"
 refine ite2 (fun hs => ?_) (fun hs => ?_)
 · have hs := of_decide_eq_true hs
   walk_at "go"
   refine w_shr hs ?_
   walk_at "go"
   refine qint k ?_
   unfold before
   dsimp only
   rw [if_pos hs]
 · have hs : ¬ 0 ≤ vy * ((w : Int) + 3) + vx := fun e => hs (decide_eq_true e)
   walk_at "go"
   refine w_shl (by omega) ?_ (inF_lt hS h1 h2) ?_
   · rcases cases7 hv.2.2.1 hv.2.2.2 with rfl | rfl | rfl | rfl | rfl | rfl | rfl <;> omega
   walk_at "go"
   refine qint k ?_
   unfold before
   dsimp only
   rw [if_neg hs]
end
section
variable {P : Program} {w : World} {K : PySem.W.Frag} {mg : Str → Option Value} {base : Heap}
theorem sc_Field_init : FnScope ["self", "width", "height"] ["self", "width", "height"] (defScope (inClass (top 12) 0)) := fS
def sp_Field_init (T : Txt K mg) : Sp := fun vs H Q _ => ∃ (p dx : Addr) (w h : Nat), vs = [.ref p, .int (w : Int), .int (h : Int)] ∧ H p = some (.ins T.places.Field.A dx []) ∧ w ≤ 32 ∧ h ≤ 32 ∧ ∀ H', FieldAt T H' p w h → (∀ b o, H b = some o → b ≠ p → H' b = some o) → Q .non H'
theorem ok_Field_init (T : Txt K mg) : FnOk P w K mg base CX0 2 T.places.Field_init.a T.places.Field_init.fd ["self", "width", "height"] (sp_Field_init T) := by
 refine T.places.Field_init.F.ok sc_Field_init (fun _ _ _ _ h => by obtain ⟨p, dx, w, h, rfl, _⟩ := h; rfl) (fun cdv A outer s H vs Q E hr h => ?_)
 obtain ⟨p, dx, w, h, rfl, hp, hw, hh, k⟩ := h
 refine ⟨_, (pss_cons (sfldK K (pv 0) (pv 1) rfl)
  (pss_cons (sfldK K (pv 0) (pv 2) rfl)
  (pss_cons (sfldK K (pv 0) (pe_op op_add (pv 1) (pe_glob rfl T.motion.FASTEST.g T.motion.FASTEST.r)) rfl)
  (pss_one (sfldK K (pv 0) (pe_meth (pv 0) T.places.Field.C T.places.Field_block.m (ok_Field_block T) (hr.mono (by decide)) T.places.Field_block.b .nil pass0 (pa_cons pe_int (pa_cons pe_int (pa_cons (pe_op op_sub (pv 1) pe_int) (pa_cons (pe_op op_sub (pv 2) pe_int) pa_nil))))) rfl))))), ?_⟩
 try dsimp only [cxOf]
 walk_at "go"
 refine w_sfldR hp T.places.Field.C T.places.Field.na.1 (show 0 < 1000 by decide) ?_
 walk_at "go"
 refine w_sfldR upd_same T.places.Field.C T.places.Field.na.2.1 (show 1 < 1000 by decide) ?_
 rw [upd_upd]
 walk_at "go"
 refine w_sfldR upd_same T.places.Field.C T.places.Field.na.2.2.1 (show 2 < 1000 by decide) ?_
 rw [upd_upd]
 walk_at "go"
 refine w_methR upd_same rfl ?_
 walk_at "go"
 refine ⟨p, w, h, 0, 0, (w : Int) - 1, (h : Int) - 1, rfl, ⟨hw, hh, dx, _, upd_same, rfl, rfl, rfl⟩, by omega, ?_⟩
 walk_at "go"
 refine w_sfldR upd_same T.places.Field.C T.places.Field.na.2.2.2.1 (show 3 < 1000 by decide) ?_
 rw [upd_upd]
 exact k _ ⟨dx, upd_same⟩ fun b o e hb => by rw [upd_ne hb]; exact e
theorem sc_burns_at : FnScope ["vx", "vy", "burn"] ["vx", "vy"] (defScope (top 7)) := fS
def sp_burns_at (K : PySem.W.Frag) : Sp := fun vs H Q _ => ∃ vx vy : Int, vs = [.int vx, .int vy] ∧ ∀ p H' xs, Same H H' → H' p = some (.lst xs) → H p = none → BVs K H' xs (burnsAt vx vy) → Q (.ref p) H'
theorem ok_burns_at (T : Txt K mg) : FnOk P w K mg base CX0 2 T.motion.burns_at.a T.motion.burns_at.fd ["vx", "vy"] (sp_burns_at K) := by
 refine T.motion.burns_at.F.ok sc_burns_at (fun _ _ _ _ h => by obtain ⟨vx, vy, rfl, _⟩ := h; rfl) (fun cdv A outer s H vs Q E hr h => ?_)
 obtain ⟨vx, vy, rfl, k⟩ := h
 refine ⟨_, (pss_one (ps_ret (pe_lc rfl sc_burns_at.nd (itK K (pe_glob rfl T.motion.BURNS.g T.motion.BURNS.r)) (own := [("burn", 2)]) (blkOk_by (by show blkC ["vx", "vy", "burn"] (defScope (top 7)) _ _ = true; decide +kernel)) (fun _ _ _ _ _ => (gN 2 sc_burns_at.nd)) (fun _ _ _ _ _ => (pts_one (pt_val (cG T.motion.is_speed (ok_is_speed T) hr (pa_cons (pe_op op_add (pv 0) (xT K (pv 2) pe_int)) (pa_cons (pe_op op_add (pv 1) (xT K (pv 2) pe_int)) pa_nil)))))) (fun _ _ _ _ _ => (pv 2))))), ?_⟩
 try dsimp only [cxOf]
 obtain ⟨xs, hK, hB⟩ := burns_at_K T
 walk_at "go"
 refine ⟨_, rfl, ⟨_, hK.sq H⟩, ?_⟩
 intro D hD
 refine lc_tup (K := K) (xs := xs) (fun i H' => Same H H' ∧ ∃ ys, H' D = some (.lst ys) ∧ BVs K H' ys ((BUR.take i).filter fun b => isSp (vx + b.a) (vy + b.b))) ⟨Same.new hD, [], upd_same, .nil⟩ (fun i H' _ _ => hK.sq H') ?_ ?_
 · rintro i x H' hi ⟨s1, ys, hy, hbs⟩
   obtain ⟨b, hb, ab, rfl, hab⟩ := paired_get' (hB H') hi
   have hlen : ys.length ≤ 9 := by
     rw [Paired.length hbs]
     exact Nat.le_trans (List.length_filter_le _ _) (Nat.le_trans (List.length_take_le' _ _) (by decide))
   walk_at "go"
   refine ⟨rfl, ?_⟩
   walk_at "go"
   refine ⟨_, _, rfl, ?_⟩
   walk_at "go"
   refine ite2 (fun hc => ?_) (fun hc => ?_)
   · walk_at "go"
     refine ⟨ys, hy, small100 (by omega), s1.set hD, _, upd_same, ?_⟩
     rw [filter_snoc hb, if_pos hc]
     exact (hbs.updL hy).snoc (BV.updL ⟨ab, rfl, hab⟩ hy)
   · refine ⟨s1, ys, hy, ?_⟩
     rw [filter_snoc hb, if_neg hc, List.append_nil]
     exact hbs
 · rintro H' ⟨s1, ys, hy, hbs⟩
   have e : BUR.take xs.length = BUR := by
     rw [Paired.length (hB H)]
     rfl
   rw [e] at hbs
   exact k D H' ys s1 hy hD hbs
theorem sc_less_than : FnScope ["burn", "come"] ["burn"] (defScope (top 8)) := fS
def sp_less_than (K : PySem.W.Frag) : Sp := fun vs H Q _ => ∃ (a : Addr) (b : Sr40.Burn), vs = [.ref a] ∧ BT K H a b ∧ ∀ p H' xs, Same H H' → H' p = some (.lst xs) → H p = none → BVs K H' xs (lessT b) → Q (.ref p) H'
theorem ok_less_than (T : Txt K mg) : FnOk P w K mg base CX0 1 T.motion.less_than.a T.motion.less_than.fd ["burn"] (sp_less_than K) := by
 refine T.motion.less_than.F.ok sc_less_than (fun _ _ _ _ h => by obtain ⟨a, b, rfl, _⟩ := h; rfl) (fun cdv A outer s H vs Q E hr h => ?_)
 obtain ⟨a, b, rfl, ha, k⟩ := h
 refine ⟨_, (pss_one (ps_ret (pe_lc rfl sc_less_than.nd (itK K (pe_glob rfl T.motion.BURNS.g T.motion.BURNS.r)) (own := [("come", 1)]) (blkOk_by (by show blkC ["burn", "come"] (defScope (top 8)) _ _ = true; decide +kernel)) (fun _ _ _ _ _ => (gN 1 sc_less_than.nd)) (fun _ _ _ _ _ => (pts_one (PW.pt (pw_and (pt_cmpR (neK K hr.units) (pv 1) (pv 0) (nomark _)) (pw_and (pt_cmpR (inK K) (xT K (pv 1) pe_int) (pe_tup (pa_cons pe_int (pa_cons (xT K (pv 0) pe_int) pa_nil))) (by with_unfolding_all rfl)) (pw_and1 (pt_cmpR (inK K) (xT K (pv 1) pe_int) (pe_tup (pa_cons pe_int (pa_cons (xT K (pv 0) pe_int) pa_nil))) (by with_unfolding_all rfl)))))))) (fun _ _ _ _ _ => (pv 1))))), ?_⟩
 try dsimp only [cxOf]
 obtain ⟨xs, hK, hB⟩ := burns_at_K T
 walk_at "go"
 refine ⟨_, rfl, ⟨_, hK.sq H⟩, ?_⟩
 intro D hD
 refine lc_tup (K := K) (xs := xs) (fun i H' => Same H H' ∧ ∃ ys, H' D = some (.lst ys) ∧ BVs K H' ys ((BUR.take i).filter fun c => !decide (c = b) && ((decide (c.a = 0) || decide (c.a = b.a)) && (decide (c.b = 0) || decide (c.b = b.b))))) ⟨Same.new hD, [], upd_same, .nil⟩ (fun i H' _ _ => hK.sq H') ?_ ?_
 · rintro i x H' hi ⟨s1, ys, hy, hbs⟩
   obtain ⟨c, hc, ac, rfl, hac⟩ := paired_get' (hB H') hi
   have hlen : ys.length ≤ 9 := by
     rw [Paired.length hbs]
     exact Nat.le_trans (List.length_filter_le _ _) (Nat.le_trans (List.length_take_le' _ _) (by decide))
   have ha1 := s1.tup ha
   -- where the turn ends
   have yes : ∀ H2, Same H' H2 → (!decide (c = b) && ((decide (c.a = 0) || decide (c.a = b.a)) && (decide (c.b = 0) || decide (c.b = b.b)))) = true → ∃ acc, H2 D = some (.lst acc) ∧ acc.length < sizeLine ∧ (Same H (upd H2 D (.lst (acc ++ [.ref ac]))) ∧ ∃ ys, upd H2 D (.lst (acc ++ [.ref ac])) D = some (.lst ys) ∧ BVs K (upd H2 D (.lst (acc ++ [.ref ac]))) ys ((BUR.take (i + 1)).filter fun c => !decide (c = b) && ((decide (c.a = 0) || decide (c.a = b.a)) && (decide (c.b = 0) || decide (c.b = b.b))))) := fun H2 s2 hq => by
     refine ⟨ys, s2 _ _ hy, small100 (by omega), (s1.trans s2).set hD, _, upd_same, ?_⟩
     rw [filter_snoc hc, if_pos hq]
     exact ((hbs.mono s2).updL (s2 _ _ hy)).snoc (BV.updL (BV.mono s2 ⟨ac, rfl, hac⟩) (s2 _ _ hy))
   have no : ∀ H2, Same H' H2 → ¬ (!decide (c = b) && ((decide (c.a = 0) || decide (c.a = b.a)) && (decide (c.b = 0) || decide (c.b = b.b)))) = true → Same H H2 ∧ ∃ ys, H2 D = some (.lst ys) ∧ BVs K H2 ys ((BUR.take (i + 1)).filter fun c => !decide (c = b) && ((decide (c.a = 0) || decide (c.a = b.a)) && (decide (c.b = 0) || decide (c.b = b.b)))) := fun H2 s2 hq => by
     refine ⟨s1.trans s2, ys, s2 _ _ hy, ?_⟩
     rw [filter_snoc hc, if_neg hq, List.append_nil]
     exact hbs.mono s2
   have ecb : (decide (c.a = b.a) && decide (c.b = b.b)) = decide (c = b) := by
     rw [Bool.eq_iff_iff]
     simp only [Bool.and_eq_true, decide_eq_true_eq]
     obtain ⟨ca, cb⟩ := c
     obtain ⟨ba, bb⟩ := b
     simp
   walk_at "go"
   refine ⟨rfl, ?_⟩
   walk_at "go"
   refine w_neT hac ha1 ?_
   rw [ecb]
   walk_at "go"
   refine ite2 (fun h1 => ?_) (fun h1 => ?_)
   · walk_at "go"
     refine w_small (by show 2 ≤ 1000; decide) fun t1 ht1 => ?_
     have s3 : Same H' (upd H' t1 (.tup [.int 0, .int b.a])) := Same.new ht1
     refine w_in2 (SqT.of upd_same) ?_
     walk_at "go"
     refine ite2 (fun h2 => ?_) (fun h2 => ?_)
     · have hac3 := s3.tup hac
       have ha3 := s3.tup ha1
       walk_at "go"
       refine w_small (by show 2 ≤ 1000; decide) fun t2 ht2 => ?_
       have s4 := s3.trans (Same.new (o := .tup [.int 0, .int b.b]) ht2)
       refine w_in2 (SqT.of upd_same) ?_
       walk_at "go"
       refine ite2 (fun h3 => ?_) (fun h3 => ?_)
       · walk_at "go"
         exact yes _ s4 (by rw [h1, h2, h3]; rfl)
       · exact no _ s4 (by rw [h1, h2]; simpa using h3)
     · exact no _ s3 (by rw [h1]; simp at h2 ⊢; omega)
   · exact no _ (Same.refl _) (by simp at h1 ⊢; exact fun e => absurd h1 e)
 · rintro H' ⟨s1, ys, hy, hbs⟩
   have e : BUR.take xs.length = BUR := by
     rw [Paired.length (hB H)]
     rfl
   rw [e] at hbs
   exact k D H' ys s1 hy hD hbs
end
section
variable {P : Program} {w : World} {K : PySem.W.Frag} {mg : Str → Option Value} {base : Heap}
theorem rng4 (n : Nat) (h : n < 10) {z : Int} (e : z = ((4 * n : Nat) : Int)) : Builtin.Range.small 0 z 4 = true ∧ Builtin.Range.rangeSize 0 z 4 = n := by
 subst e
 have key : ∀ n : Nat, n < 10 → Builtin.Range.small 0 ((4 * n : Nat) : Int) 4 = true ∧ Builtin.Range.rangeSize 0 ((4 * n : Nat) : Int) 4 = n := by decide
 exact key n h
theorem sc_is_box_within : FnScope ["box", "width", "height"] ["box", "width", "height"] (defScope (top 20)) := fS
def okBx (w h : Int) (b : Sr39.Box) : Bool := (decide (0 ≤ b.x1) && decide (b.x1 ≤ b.x2) && decide (b.x2 < w)) && (decide (0 ≤ b.y1) && decide (b.y1 ≤ b.y2) && decide (b.y2 < h))
def sp_is_box_within (K : PySem.W.Frag) : Sp := fun vs H Q _ => ∃ (a : Addr) (b : Sr39.Box) (w h : Int), vs = [.ref a, .int w, .int h] ∧ BoxT K H a b ∧ Q (.bl (okBx w h b)) H
theorem ok_is_box_within (T : Txt K mg) : FnOk P w K mg base CX0 1 T.chart.is_box_within.a T.chart.is_box_within.fd ["box", "width", "height"] (sp_is_box_within K) := by
 refine T.chart.is_box_within.F.ok sc_is_box_within (fun _ _ _ _ h => by obtain ⟨a, b, w, h, rfl, _⟩ := h; rfl) (fun cdv A outer s H vs Q E hr h => ?_)
 obtain ⟨a, b, w, h, rfl, ha, k⟩ := h
 refine ⟨_, (pss_one (ps_ret (pe_and (pe_chain3 op_le op_le op_lt pe_int (xT K (pv 0) pe_int) (xT K (pv 0) pe_int) (pv 1)) (pe_one (pe_chain3 op_le op_le op_lt pe_int (xT K (pv 0) pe_int) (xT K (pv 0) pe_int) (pv 2)))))), ?_⟩
 try dsimp only [cxOf]
 walk_at "if"
 all_goals (refine qbl k ?_; unfold okBx; simp_all)
 all_goals omega
theorem sc_is_in_a_box : FnScope ["boxes", "x", "y", "box"] ["boxes", "x", "y"] (defScope (top 22)) := fS
def sp_is_in_a_box (K : PySem.W.Frag) : Sp := fun vs H Q _ => ∃ (l : Addr) (bs : List Sr39.Box) (x y : Int), vs = [.ref l, .int x, .int y] ∧ BoxL K H l bs ∧ bs.length ≤ 100 ∧ ∀ H', Same H H' → Q (.bl (bs.any (Sr40.inBox x y))) H'
theorem ok_is_in_a_box (T : Txt K mg) : FnOk P w K mg base CX0 1 T.chart.is_in_a_box.a T.chart.is_in_a_box.fd ["boxes", "x", "y"] (sp_is_in_a_box K) := by
 refine T.chart.is_in_a_box.F.ok sc_is_in_a_box (fun _ _ _ _ h => by obtain ⟨l, bs, x, y, rfl, _⟩ := h; rfl) (fun cdv A outer s H vs Q E hr h => ?_)
 obtain ⟨l, bs, x, y, rfl, ⟨xs, hl, hb⟩, h100, k⟩ := h
 refine ⟨_, (pss_one (ps_ret (pe_callB (anyK K rfl) rfl T.n_any boot_any (pa_cons (pe_lc rfl sc_is_in_a_box.nd (ilK K (pv 0)) (own := [("box", 3)]) (blkOk_by (by show blkC ["boxes", "x", "y", "box"] (defScope (top 22)) _ _ = true; decide +kernel)) (fun _ _ _ _ _ => (gN 3 sc_is_in_a_box.nd)) (fun _ _ _ _ _ => pts_nil) (fun _ _ _ _ _ => (pe_and (pe_chain op_le op_le (xT K (pv 3) pe_int) (pv 1) (xT K (pv 3) pe_int)) (pe_one (pe_chain op_le op_le (xT K (pv 3) pe_int) (pv 2) (xT K (pv 3) pe_int)))))) pa_nil)))), ?_⟩
 try dsimp only [cxOf]
 walk_at "go"
 refine ⟨_, rfl, ⟨_, hl⟩, ?_⟩
 intro D hD
 refine lc_list (K := K) (xs := xs) (fun i H' => Same H H' ∧ H' D = some (.lst (((bs.take i).map (Sr40.inBox x y)).map V.bl))) ⟨Same.new hD, upd_same⟩ (fun i H' _ q => q.1.seq hl) ?_ ?_
 · rintro i v H' hi ⟨s1, hy⟩
   obtain ⟨b, hbi, a, rfl, ha0⟩ := paired_get' hb hi
   have ha := s1.tup ha0
   have fin : ∀ r : Bool, Sr40.inBox x y b = r → ∃ acc, H' D = some (.lst acc) ∧ acc.length < sizeLine ∧ (Same H (upd H' D (.lst (acc ++ [.bl r]))) ∧ upd H' D (.lst (acc ++ [.bl r])) D = some (.lst (((bs.take (i + 1)).map (Sr40.inBox x y)).map V.bl))) := fun r e => by
     refine ⟨_, hy, small100 ?_, s1.set hD, ?_⟩
     · rw [List.length_map, List.length_map]
       exact Nat.le_trans (List.length_take_le' _ _) (by omega)
     · rw [upd_same, take_snoc hbi, List.map_append, List.map_append, ← e]
       rfl
   walk_at "go"
   refine ⟨rfl, ?_⟩
   walk_at "if"
   all_goals (refine fin _ ?_; unfold Sr40.inBox; simp_all)
   all_goals omega
 · rintro H' ⟨s1, hy⟩
   have e : bs.take xs.length = bs := by
     rw [Paired.length hb, List.take_length]
   rw [e] at hy
   refine ⟨D, _, rfl, SqL.of hy, ?_⟩
   refine qbl (k H' s1) ?_
   rw [List.any_map]
   rfl
theorem sc_boxes_in : FnScope ["row", "k"] ["row"] (defScope (top 18)) := fS
def sp_boxes_in (K : PySem.W.Frag) : Sp := fun vs H Q _ => ∃ (r : Addr) (ns : List Int), vs = [.ref r] ∧ SqL K H r (ns.map V.int) ∧ ns.length % 4 = 0 ∧ ns.length ≤ 36 ∧ ∀ p H' xs, Same H H' → H' p = some (.lst xs) → H p = none → BoxVs K H' xs (Sr41Neutral.boxes ns) → Q (.ref p) H'
theorem ok_boxes_in (T : Txt K mg) : FnOk P w K mg base CX0 1 T.chart.boxes_in.a T.chart.boxes_in.fd ["row"] (sp_boxes_in K) := by
 refine T.chart.boxes_in.F.ok sc_boxes_in (fun _ _ _ _ h => by obtain ⟨r, ns, rfl, _⟩ := h; rfl) (fun cdv A outer s H vs Q E hr h => ?_)
 obtain ⟨r, ns, rfl, hr0, h4, h36, k⟩ := h
 refine ⟨_, (pss_one (ps_ret (pe_lc rfl sc_boxes_in.nd (pi_range3 rfl T.n_range (pa_cons pe_int (pa_cons (pe_callB (lenK K) rfl T.n_len boot_len (pa_cons (pv 0) pa_nil)) (pa_cons pe_int pa_nil)))) (own := [("k", 1)]) (blkOk_by (by show blkC ["row", "k"] (defScope (top 18)) _ _ = true; decide +kernel)) (fun _ _ _ _ _ => (gN 1 sc_boxes_in.nd)) (fun _ _ _ _ _ => pts_nil) (fun _ _ _ _ _ => (pe_callTy (tupK K) rfl T.n_tuple boot_tuple (pa_cons (pe_slice (slK K) (pv 0) (po_some (pv 1)) (po_some (pe_op op_add (pv 1) pe_int))) pa_nil)))))), ?_⟩
 try dsimp only [cxOf]
 obtain ⟨n, hn⟩ : ∃ n, ns.length = 4 * n := ⟨ns.length / 4, by omega⟩
 obtain ⟨hbl, hbx⟩ := boxes_of n ns hn
 walk_at "go"
 rw [List.length_map]
 refine ⟨_, _, _, n, rfl, ⟨by decide, by decide, ?_, ?_⟩, ?_⟩
 · exact (rng4 n (by omega) (by rw [hn])).1
 · exact (rng4 n (by omega) (by rw [hn])).2
 intro D hD
 refine lc_rangeC (fun i H' => Same H H' ∧ ∃ ys, H' D = some (.lst ys) ∧ BoxVs K H' ys ((Sr41Neutral.boxes ns).take i)) ⟨Same.new hD, [], upd_same, .nil⟩ ?_ ?_
 · rintro i H' hi ⟨s1, ys, hy, hbs⟩
   obtain ⟨a, b, c, d, e1, e2⟩ := hbx i hi
   have hr1 := s1.seq hr0
   have hlen : ys.length ≤ 9 := by
     rw [Paired.length hbs]
     exact Nat.le_trans (List.length_take_le' _ _) (by omega)
   walk_at "go"
   refine ⟨rfl, ?_⟩
   walk_at "go"
   refine w_slL hr1 fun p hp => ?_
   have s2 : Same H' (upd H' p (.lst (cutV (ns.map V.int) (some (0 + (i : Nat) * 4)) (some (0 + (i : Nat) * 4 + 4))))) := Same.new hp
   have ec : cutV (ns.map V.int) (some (0 + (i : Nat) * 4)) (some (0 + (i : Nat) * 4 + 4)) = [.int a, .int b, .int c, .int d] := by
     have q := cut_in (xs := ns.map V.int) (a := 4 * i) (b := 4 * i + 4) (by omega) (by rw [List.length_map]; omega)
     have e3 : (0 + ((i : Nat) : Int) * 4) = ((4 * i : Nat) : Int) := by omega
     have e4 : ((4 * i : Nat) : Int) + 4 = ((4 * i + 4 : Nat) : Int) := by omega
     rw [e3, e4, q, Nat.add_sub_cancel_left, ← List.map_drop, ← List.map_take, e1]
     rfl
   rw [ec] at s2 ⊢
   walk_at "go"
   refine w_tupL (SqL.of upd_same) fun l hl => ?_
   have s3 := s2.trans (Same.new (o := .tup [.int a, .int b, .int c, .int d]) hl)
   refine ⟨ys, s3 _ _ hy, small100 (by omega), (s1.trans s3).set hD, _, upd_same, ?_⟩
   rw [take_snoc e2]
   exact ((hbs.mono s3).updL (s3 _ _ hy)).snoc (BoxV.updL ⟨l, rfl, SqT.of upd_same⟩ (s3 _ _ hy))
 · rintro H' ⟨s1, ys, hy, hbs⟩
   rw [← hbl, List.take_length] at hbs
   exact k D H' ys s1 hy hD hbs
end
section
variable {P : Program} {w : World} {K : PySem.W.Frag} {mg : Str → Option Value} {base : Heap}
theorem sc_is_port_as_told : FnScope ["numbers", "boxes", "heading", "x", "y"] ["numbers", "boxes"] (defScope (top 21)) := fS
def portOk (w h d px py : Nat) (bs : List Sr39.Box) : Bool := inFld w h (px - Sr40.dx d) (py - Sr40.dy d) && (bs.any (Sr40.inBox px py) && !(bs.any (Sr40.inBox (px - Sr40.dx d) (py - Sr40.dy d))))
def sp_is_port_as_told (K : PySem.W.Frag) : Sp := fun vs H Q _ => ∃ (nb bl : Addr) (w h d px py n1 n2 : Nat) (bs : List Sr39.Box), vs = [.ref nb, .ref bl] ∧ SqL K H nb [.int (w : Int), .int (h : Int), .int (d : Int), .int (px : Int), .int (py : Int), .int (n1 : Int), .int (n2 : Int)] ∧ BoxL K H bl bs ∧ bs.length ≤ 100 ∧ w ≤ 32 ∧ h ≤ 32 ∧ d ≤ 3 ∧ ∀ H', Same H H' → Q (.bl (portOk w h d px py bs)) H'
theorem ok_is_port_as_told (T : Txt K mg) : FnOk P w K mg base CX0 4 T.chart.is_port_as_told.a T.chart.is_port_as_told.fd ["numbers", "boxes"] (sp_is_port_as_told K) := by
 refine T.chart.is_port_as_told.F.ok sc_is_port_as_told (fun _ _ _ _ h => by obtain ⟨nb, bl, w, h, d, px, py, n1, n2, bs, rfl, _⟩ := h; rfl) (fun cdv A outer s H vs Q E hr h => ?_)
 obtain ⟨nb, bl, w, h, d, px, py, n1, n2, bs, rfl, hn, hb, h100, hw, hh, hd, k⟩ := h
 refine ⟨_, (pss_cons (sA 2 sc_is_port_as_told.nd (xT K (pe_glob rfl T.chart.WAYS.g T.chart.WAYS.r) (xL K (pv 0) pe_int)))
  (pss_cons (sA 3 sc_is_port_as_told.nd (pe_op op_sub (xL K (pv 0) pe_int) (xT K (pv 2) pe_int)))
  (pss_cons (sA 4 sc_is_port_as_told.nd (pe_op op_sub (xL K (pv 0) pe_int) (xT K (pv 2) pe_int)))
  (pss_cons (ps_if (pt_not (pt_val (pe_meth (pe_make T.places.Field_init.M (ok_Field_init T) (hr.mono (by decide)) rfl T.places.Field.c T.places.Field_init.b .nil pass0 (pa_cons (xL K (pv 0) pe_int) (pa_cons (xL K (pv 0) pe_int) pa_nil))) T.places.Field.C T.places.Field_has.m (ok_Field_has T) (hr.mono (by decide)) T.places.Field_has.b .nil pass0 (pa_cons (pv 3) (pa_cons (pv 4) pa_nil))))) (pss_one (ps_ret pe_bl)) pss_nil)
  (pss_one (ps_ret (pe_and (cG T.chart.is_in_a_box (ok_is_in_a_box T) hr (pa_cons (pv 1) (pa_cons (xL K (pv 0) pe_int) (pa_cons (xL K (pv 0) pe_int) pa_nil)))) (pe_one (pe_not (cG T.chart.is_in_a_box (ok_is_in_a_box T) hr (pa_cons (pv 1) (pa_cons (pv 3) (pa_cons (pv 4) pa_nil))))))))))))), ?_⟩
 try dsimp only [cxOf]
 obtain ⟨xs, a, hK, hl4, hxa, hA⟩ := ways_K T hd
 have hw0 := hK.sq H
 have ha0 := hA H
 walk_at "go"
 refine w_ixT hw0 (atI_nat hxa) ?_
 walk_at "go"
 intro f dx nf ndx nef
 refine ⟨f, dx, w, h, rfl, upd_same, hw, hh, fun H1 hF keep => ⟨rfl, ?_⟩⟩
 have s1 : Same H H1 := Same.made nf ndx keep
 have hFp := hF.p hw hh
 walk_at "go"
 refine ⟨f, w, h, _, _, rfl, hFp, ?_⟩
 walk_at "go"
 refine ite2 (fun hc => ?_) (fun hc => ?_)
 · walk_at "go"
   refine qbl (k H1 s1) ?_
   unfold portOk
   simp only [Bool.not_eq_true'] at hc
   rw [hc]
   rfl
 · have hc : inFld w h ((px : Int) - Sr40.dx d) ((py : Int) - Sr40.dy d) = true := by simpa using hc
   have hn1 := s1.seq hn
   walk_at "go"
   refine ⟨bl, bs, _, _, rfl, hb.mono s1, h100, fun H2 s2 => ?_⟩
   walk_at "go"
   refine ite2 (fun h1 => ?_) (fun h1 => ?_)
   · walk_at "go"
     refine ⟨bl, bs, _, _, rfl, hb.mono (s1.trans s2), h100, fun H3 s3 => ?_⟩
     walk_at "go"
     refine qbl (k H3 ((s1.trans s2).trans s3)) ?_
     unfold portOk
     rw [hc, h1]
     rfl
   · refine qbl (k H2 (s1.trans s2)) ?_
     unfold portOk
     rw [Bool.not_eq_true] at h1
     rw [hc, h1]
     rfl
end
section
variable {P : Program} {w : World} {K : PySem.W.Frag} {mg : Str → Option Value} {base : Heap}
theorem sc_is_chart_as_told : FnScope ["numbers", "boxes", "width", "height", "box"] ["numbers", "boxes"] (defScope (top 19)) := fS
theorem good_eq (w h d px py n1 n2 : Nat) (bs : List Sr39.Box) : Sr40.good ⟨w, h, d, px, py, [n1, n2], bs⟩ =
   (((decide (1 ≤ (w : Int)) && decide ((w : Int) ≤ 32)) && (decide (1 ≤ (h : Int)) && decide ((h : Int) ≤ 32))) && ((decide (1 ≤ (bs.length : Int)) && decide ((bs.length : Int) ≤ 8)) && (bs.all (okBx w h) && (!(decide (4 ≤ (d : Int)) || (!decide ((n1 : Int) = 0) || !decide ((n2 : Int) = 0))) && portOk w h d px py bs)))) := by
 have e1 : bs.all (Sr40.Map_.okBox ⟨w, h, d, px, py, [n1, n2], bs⟩) = bs.all (okBx w h) := by
   congr 1
   funext b
   unfold Sr40.Map_.okBox okBx Sr40.Map_.inField
   rw [Bool.eq_iff_iff]
   simp only [Bool.and_eq_true, decide_eq_true_eq]
   omega
 unfold Sr40.good Sr40.okSize Sr40.FIELD Sr40.BOXES
 dsimp only
 rw [e1, Bool.eq_iff_iff]
 unfold portOk
 simp only [Bool.and_eq_true, decide_eq_true_eq, Bool.not_eq_true', Bool.or_eq_false_iff, decide_eq_false_iff_not, beq_iff_eq, inField_eq, Bool.not_eq_false', List.cons.injEq, and_true]
 constructor
 · rintro ⟨⟨⟨⟨⟨⟨⟨⟨⟨a1, a2⟩, a3⟩, a4⟩, a5⟩, a6⟩, a7⟩, a8⟩, a9⟩, a10⟩
   exact ⟨⟨⟨by omega, by omega⟩, by omega, by omega⟩, ⟨by omega, by omega⟩, a5, ⟨by omega, by omega, by omega⟩, a9, a8, a10⟩
 · rintro ⟨⟨⟨a1, a2⟩, a3, a4⟩, ⟨a5, a6⟩, a7, ⟨a8, a9, a10⟩, a11, a12, a13⟩
   exact ⟨⟨⟨⟨⟨⟨⟨⟨⟨⟨by omega, by omega⟩, by omega, by omega⟩, by omega⟩, by omega⟩, a7⟩, by omega⟩, ⟨by omega, by omega⟩⟩, a12⟩, a11⟩, a13⟩
def sp_is_chart_as_told (K : PySem.W.Frag) : Sp := fun vs H Q _ => ∃ (nb bl : Addr) (w h d px py n1 n2 : Nat) (bs : List Sr39.Box), vs = [.ref nb, .ref bl] ∧ SqL K H nb [.int (w : Int), .int (h : Int), .int (d : Int), .int (px : Int), .int (py : Int), .int (n1 : Int), .int (n2 : Int)] ∧ BoxL K H bl bs ∧ bs.length ≤ 100 ∧ ∀ H', Same H H' → Q (.bl (Sr40.good ⟨w, h, d, px, py, [n1, n2], bs⟩)) H'
theorem ok_is_chart_as_told (T : Txt K mg) : FnOk P w K mg base CX0 5 T.chart.is_chart_as_told.a T.chart.is_chart_as_told.fd ["numbers", "boxes"] (sp_is_chart_as_told K) := by
 refine T.chart.is_chart_as_told.F.ok sc_is_chart_as_told (fun _ _ _ _ h => by obtain ⟨nb, bl, w, h, d, px, py, n1, n2, bs, rfl, _⟩ := h; rfl) (fun cdv A outer s H vs Q E hr h => ?_)
 obtain ⟨nb, bl, w, h, d, px, py, n1, n2, bs, rfl, hn, hb, h100, k⟩ := h
 refine ⟨_, (pss_cons (sA 2 sc_is_chart_as_told.nd (xL K (pv 0) pe_int))
  (pss_cons (sA 3 sc_is_chart_as_told.nd (xL K (pv 0) pe_int))
  (pss_cons (ps_if (pt_not (PW.pt (pw_and (pt_chain op_le op_le pe_int (pv 2) (pe_glob rfl T.chart.WIDEST.g T.chart.WIDEST.r)) (pw_and1 (pt_chain op_le op_le pe_int (pv 3) (pe_glob rfl T.chart.WIDEST.g T.chart.WIDEST.r)))))) (pss_one (ps_ret pe_bl)) pss_nil)
  (pss_cons (ps_if (pt_not (pt_chain op_le op_le pe_int (pe_callB (lenK K) rfl T.n_len boot_len (pa_cons (pv 1) pa_nil)) (pe_glob rfl T.chart.MOST_BOXES.g T.chart.MOST_BOXES.r))) (pss_one (ps_ret pe_bl)) pss_nil)
  (pss_cons (ps_if (pt_not (pt_val (pe_callB (allK K rfl) rfl T.n_all boot_all (pa_cons (pe_lc rfl sc_is_chart_as_told.nd (ilK K (pv 1)) (own := [("box", 4)]) (blkOk_by (by show blkC ["numbers", "boxes", "width", "height", "box"] (defScope (top 19)) _ _ = true; decide +kernel)) (fun _ _ _ _ _ => (gN 4 sc_is_chart_as_told.nd)) (fun _ _ _ _ _ => pts_nil) (fun _ _ _ _ _ => (cG T.chart.is_box_within (ok_is_box_within T) hr (pa_cons (pv 4) (pa_cons (pv 2) (pa_cons (pv 3) pa_nil)))))) pa_nil)))) (pss_one (ps_ret pe_bl)) pss_nil)
  (pss_cons (ps_if (PW.pt (pw_or (pt_cmpR op_ge (xL K (pv 0) pe_int) (pe_callB (lenK K) rfl T.n_len boot_len (pa_cons (pe_glob rfl T.chart.WAYS.g T.chart.WAYS.r) pa_nil)) (nomark _)) (pw_or (pt_cmpR op_ne (xL K (pv 0) pe_int) pe_int (nomark _)) (pw_or1 (pt_cmpR op_ne (xL K (pv 0) pe_int) pe_int (nomark _)))))) (pss_one (ps_ret pe_bl)) pss_nil)
  (pss_one (ps_ret (cG T.chart.is_port_as_told (ok_is_port_as_told T) hr (pa_cons (pv 0) (pa_cons (pv 1) pa_nil))))))))))), ?_⟩
 try dsimp only [cxOf]
 rw [good_eq] at k
 have ways4 : ∃ xs, KTup K T.chart.WAYS.a xs ∧ xs.length = 4 := by
   obtain ⟨xs, a, hK, hl4, _⟩ := ways_K T (k := 0) (by decide)
   exact ⟨xs, hK, hl4⟩
 obtain ⟨wx, hwx, hw4⟩ := ways4
 obtain ⟨xs, hxs, hbs⟩ := hb
 have hlen : xs.length = bs.length := Paired.length hbs
 walk_at "if"
 all_goals try (refine qbl (k _ (Same.refl _)) ?_; rw [Bool.eq_false_iff]; intro hh; clear k; simp only [Bool.and_eq_true, Bool.or_eq_true, decide_eq_true_eq, Bool.not_eq_true', decide_eq_false_iff_not, Bool.not_eq_true, Bool.or_eq_false_iff, Bool.not_eq_false', Bool.not_eq_false] at *; omega)
 rename_i a1 a2 a3 a4 a5 a6
 refine ⟨_, rfl, ⟨_, hxs⟩, ?_⟩
 intro D hD
 refine lc_list (K := K) (xs := xs) (fun i H' => Same H H' ∧ H' D = some (.lst (((bs.take i).map (okBx w h)).map V.bl))) ⟨Same.new hD, upd_same⟩ (fun i H' _ q => q.1.seq hxs) ?_ ?_
 · rintro i v H' hi ⟨s1, hy⟩
   obtain ⟨b, hbi, a, rfl, ha0⟩ := paired_get' hbs hi
   have ha := s1.tup ha0
   walk_at "go"
   refine ⟨rfl, ?_⟩
   walk_at "go"
   refine ⟨a, b, _, _, rfl, ha, ?_⟩
   refine ⟨_, hy, small100 ?_, s1.set hD, ?_⟩
   · rw [List.length_map, List.length_map]
     exact Nat.le_trans (List.length_take_le' _ _) (by omega)
   · rw [upd_same, take_snoc hbi, List.map_append, List.map_append]
     rfl
 · rintro H1 ⟨s1, hy⟩
   have e : bs.take xs.length = bs := by
     rw [hlen, List.take_length]
   rw [e] at hy
   have hn1 := s1.seq hn
   have hw1 := hwx.sq H1
   refine ⟨D, _, rfl, SqL.of hy, ?_⟩
   have ea : ((bs.map (okBx (w : Int) (h : Int))).all id) = bs.all (okBx w h) := by
     rw [List.all_map]
     rfl
   rw [ea]
   walk_at "go"
   have c1 : (decide (1 ≤ (w : Int)) && decide ((w : Int) ≤ 32)) = true := by rw [a1, a2]; rfl
   have c2 : (decide (1 ≤ (h : Int)) && decide ((h : Int) ≤ 32)) = true := by rw [a3]; simpa using a4
   have c3 : (decide (1 ≤ (bs.length : Int)) && decide ((bs.length : Int) ≤ 8)) = true := by rw [← hlen, a5]; simpa using a6
   rw [c1, c2, c3] at k
   simp only [Bool.true_and] at k
   refine ite2 (fun hc => ?_) (fun hc => ?_)
   · walk_at "go"
     refine qbl (k _ s1) ?_
     rw [Bool.not_eq_true'] at hc
     rw [hc]
     rfl
   · have hc : bs.all (okBx (w : Int) (h : Int)) = true := by simpa using hc
     rw [hc] at k
     simp only [Bool.true_and] at k
     walk_at "go"
     rw [hw4]
     refine ite2 (fun h1 => ?_) (fun h1 => ?_)
     · have h1 : decide (4 ≤ (d : Int)) = true := h1
       walk_at "go"
       refine qbl (k _ s1) ?_
       rw [h1]
       rfl
     · have h1 : decide (4 ≤ (d : Int)) = false := Bool.not_eq_true _ ▸ h1
       rw [h1] at k
       walk_at "go"
       refine ite2 (fun h2 => ?_) (fun h2 => ?_)
       · walk_at "go"
         refine qbl (k _ s1) ?_
         rw [h2]
         rfl
       · rw [Bool.not_eq_true] at h2
         rw [h2] at k
         walk_at "go"
         refine ite2 (fun h3 => ?_) (fun h3 => ?_)
         · walk_at "go"
           refine qbl (k _ s1) ?_
           rw [h3]
           rfl
         · rw [Bool.not_eq_true] at h3
           rw [h3] at k
           walk_at "go"
           refine ⟨nb, bl, w, h, d, px, py, n1, n2, bs, rfl, hn1, BoxL.mono s1 ⟨xs, hxs, hbs⟩, h100, ?_, ?_, ?_, fun H2 s2 => k H2 (s1.trans s2)⟩
           · have := of_decide_eq_true a2
             omega
           · have a4 : decide ((h : Int) ≤ 32) = true := by simpa using a4
             have := of_decide_eq_true a4
             omega
           · have := of_decide_eq_false h1
             omega
end
section
variable {P : Program} {w : World} {K : PySem.W.Frag} {mg : Str → Option Value} {base : Heap}
theorem sqT_updI {H : Hp} {a D C dx : Addr} {xs : List V} {fs : List (Str × V)} {o : HO} (h : SqT K H a xs) (hD : H D = some (.ins C dx fs)) : SqT K (upd H D o) a xs := by
 rcases h with (h | ⟨u, h⟩) | h
 · exact .inl (.inl (by rw [upd_ne (ne_of h hD (by intro z; cases z))]; exact h))
 · exact .inl (.inr ⟨u, by rw [upd_ne (ne_of h hD (by intro z; cases z))]; exact h⟩)
 · exact .inr h
theorem sqL_updI {H : Hp} {a D C dx : Addr} {xs : List V} {fs : List (Str × V)} {o : HO} (h : SqL K H a xs) (hD : H D = some (.ins C dx fs)) : SqL K (upd H D o) a xs := by
 rcases h with (h | ⟨u, h⟩) | h
 · exact .inl (.inl (by rw [upd_ne (ne_of h hD (by intro z; cases z))]; exact h))
 · exact .inl (.inr ⟨u, by rw [upd_ne (ne_of h hD (by intro z; cases z))]; exact h⟩)
 · exact .inr h
theorem boxL_updI {H : Hp} {a D C dx : Addr} {bs : List Sr39.Box} {fs : List (Str × V)} {o : HO} (h : BoxL K H a bs) (hD : H D = some (.ins C dx fs)) : BoxL K (upd H D o) a bs := by
 obtain ⟨xs, h1, h2⟩ := h
 exact ⟨xs, sqL_updI h1 hD, Paired.imp' (fun _ _ ⟨b, e, q⟩ => ⟨b, e, sqT_updI q hD⟩) h2⟩
theorem sc_Chart_init : FnScope ["self", "numbers", "boxes"] ["self", "numbers", "boxes"] (defScope (inClass (top 17) 0)) := fS
def sp_Chart_init (T : Txt K mg) : Sp := fun vs H Q _ => ∃ (c dx nb bl : Addr) (w h d px py n1 n2 : Nat) (bs : List Sr39.Box), vs = [.ref c, .ref nb, .ref bl] ∧ H c = some (.ins T.chart.Chart.A dx []) ∧ SqL K H nb [.int (w : Int), .int (h : Int), .int (d : Int), .int (px : Int), .int (py : Int), .int (n1 : Int), .int (n2 : Int)] ∧ BoxL K H bl bs ∧ w ≤ 32 ∧ h ≤ 32 ∧ d ≤ 3 ∧ ∀ H' f hd pt, ChartIs T H' c ⟨w, h, d, px, py, [n1, n2], bs⟩ f hd pt bl → (∀ b o, H b = some o → b ≠ c → H' b = some o) → Q .non H'
theorem ok_Chart_init (T : Txt K mg) : FnOk P w K mg base CX0 4 T.chart.Chart_init.a T.chart.Chart_init.fd ["self", "numbers", "boxes"] (sp_Chart_init T) := by
 refine T.chart.Chart_init.F.ok sc_Chart_init (fun _ _ _ _ h => by obtain ⟨c, dx, nb, bl, w, h, d, px, py, n1, n2, bs, rfl, _⟩ := h; rfl) (fun cdv A outer s H vs Q E hr h => ?_)
 obtain ⟨c, dx, nb, bl, w, h, d, px, py, n1, n2, bs, rfl, hc, hn, hb, hw, hh, hd, k⟩ := h
 refine ⟨_, (pss_cons (sfldK K (pv 0) (pe_make T.places.Field_init.M (ok_Field_init T) (hr.mono (by decide)) rfl T.places.Field.c T.places.Field_init.b .nil pass0 (pa_cons (xL K (pv 1) pe_int) (pa_cons (xL K (pv 1) pe_int) pa_nil))) rfl)
  (pss_cons (sfldK K (pv 0) (xT K (pe_glob rfl T.chart.WAYS.g T.chart.WAYS.r) (xL K (pv 1) pe_int)) rfl)
  (pss_cons (sfldK K (pv 0) (pe_tup (pa_cons (xL K (pv 1) pe_int) (pa_cons (xL K (pv 1) pe_int) pa_nil))) rfl)
  (pss_one (sfldK K (pv 0) (pv 2) rfl))))), ?_⟩
 try dsimp only [cxOf]
 obtain ⟨xs, hd', hK, hl4, hxa, hA⟩ := ways_K T hd
 walk_at "go"
 intro f fdx nf ndx nef
 refine ⟨f, fdx, w, h, rfl, upd_same, hw, hh, fun H1 hF keep => ⟨rfl, ?_⟩⟩
 have s1 : Same H H1 := Same.made nf ndx keep
 have hc1 := s1 _ _ hc
 have hfc : f ≠ c := fun e => by rw [e, hc] at nf; cases nf
 walk_at "go"
 refine w_sfldR hc1 T.chart.Chart.C T.chart.Chart.na.1 (show 0 < 1000 by decide) ?_
 have hn1 := sqL_updI (o := .ins T.chart.Chart.A dx (putF "field" (.ref f) [])) (s1.seq hn) hc1
 walk_at "go"
 refine w_ixT (hK.sq _) (atI_nat hxa) ?_
 walk_at "go"
 refine w_sfldR upd_same T.chart.Chart.C T.chart.Chart.na.2.1 (show 1 < 1000 by decide) ?_
 rw [upd_upd]
 have hn2 := sqL_updI (o := .ins T.chart.Chart.A dx (putF "heading" (.ref hd') (putF "field" (.ref f) []))) (s1.seq hn) hc1
 walk_at "go"
 refine w_small (by show 2 ≤ 1000; decide) fun pt hpt => ?_
 have hptc : pt ≠ c := fun e => by rw [e, upd_same] at hpt; cases hpt
 have e3 : (upd (upd H1 c (.ins T.chart.Chart.A dx (putF "heading" (.ref hd') (putF "field" (.ref f) [])))) pt (.tup [.int px, .int py])) c = some (.ins T.chart.Chart.A dx (putF "heading" (.ref hd') (putF "field" (.ref f) []))) := by
   rw [upd_ne hptc.symm]
   exact upd_same
 walk_at "go"
 refine w_sfldR e3 T.chart.Chart.C T.chart.Chart.na.2.2.1 (show 2 < 1000 by decide) ?_
 walk_at "go"
 refine w_sfldR upd_same T.chart.Chart.C T.chart.Chart.na.2.2.2.1 (show 3 < 1000 by decide) ?_
 rw [upd_upd]
 have hp1 : H1 pt = none := by
   rw [upd_ne hptc] at hpt
   exact hpt
 obtain ⟨fx, hfx⟩ := hF
 -- the last heap, read from H1
 have rd : ∀ b o, H1 b = some o → b ≠ c → (upd (upd (upd H1 c (.ins T.chart.Chart.A dx (putF "heading" (.ref hd') (putF "field" (.ref f) [])))) pt (.tup [.int px, .int py])) c (.ins T.chart.Chart.A dx (putF "boxes" (.ref bl) (putF "port" (.ref pt) (putF "heading" (.ref hd') (putF "field" (.ref f) [])))))) b = some o := fun b o e hbc => by
   rw [upd_ne hbc, upd_ne (ne_of_none e hp1), upd_ne hbc]
   exact e
 have rdL : ∀ a ys, SqL K H a ys → SqL K (upd (upd (upd H1 c (.ins T.chart.Chart.A dx (putF "heading" (.ref hd') (putF "field" (.ref f) [])))) pt (.tup [.int px, .int py])) c (.ins T.chart.Chart.A dx (putF "boxes" (.ref bl) (putF "port" (.ref pt) (putF "heading" (.ref hd') (putF "field" (.ref f) [])))))) a ys := fun a ys q => by
   rcases q with (q | ⟨u, q⟩) | q
   · exact .inl (.inl (rd _ _ (s1 _ _ q) (ne_of q hc (by intro z; cases z))))
   · exact .inl (.inr ⟨u, rd _ _ (s1 _ _ q) (ne_of q hc (by intro z; cases z))⟩)
   · exact .inr q
 have rdT : ∀ a ys, SqT K H a ys → SqT K (upd (upd (upd H1 c (.ins T.chart.Chart.A dx (putF "heading" (.ref hd') (putF "field" (.ref f) [])))) pt (.tup [.int px, .int py])) c (.ins T.chart.Chart.A dx (putF "boxes" (.ref bl) (putF "port" (.ref pt) (putF "heading" (.ref hd') (putF "field" (.ref f) [])))))) a ys := fun a ys q => by
   rcases q with (q | ⟨u, q⟩) | q
   · exact .inl (.inl (rd _ _ (s1 _ _ q) (ne_of q hc (by intro z; cases z))))
   · exact .inl (.inr ⟨u, rd _ _ (s1 _ _ q) (ne_of q hc (by intro z; cases z))⟩)
   · exact .inr q
 have hF2 : FieldAt T _ f w h := ⟨fx, rd _ _ hfx hfc⟩
 refine k _ f hd' pt ⟨⟨dx, upd_same⟩, hF2, hF2.p hw hh, hA _, ?_, ?_⟩ fun b o e hbc => rd b o (s1 _ _ e) hbc
 · refine SqT.of ?_
   rw [upd_ne hptc]
   exact upd_same
 · obtain ⟨ys, q1, q2⟩ := hb
   exact ⟨ys, rdL _ _ q1, Paired.imp' (fun _ _ ⟨b, e, q⟩ => ⟨b, e, rdT _ _ q⟩) q2⟩
theorem sc_Chart_is_here : FnScope ["self", "state"] ["self", "state"] (defScope (inClass (top 17) 1)) := fS
def sp_Chart_is_here (T : Txt K mg) : Sp := fun vs H Q _ => ∃ (c a f hd pt bx : Addr) (m : Sr40.Map_) (s : Sr40.State), vs = [.ref c, .ref a] ∧ ChartIs T H c m f hd pt bx ∧ StT K H a s ∧ Q (.bl (m.here s)) H
theorem ok_Chart_is_here (T : Txt K mg) : FnOk P w K mg base CX0 2 T.chart.Chart_is_here.a T.chart.Chart_is_here.fd ["self", "state"] (sp_Chart_is_here T) := by
 refine T.chart.Chart_is_here.F.ok sc_Chart_is_here (fun _ _ _ _ h => by obtain ⟨c, a, f, hd, pt, bx, m, s, rfl, _⟩ := h; rfl) (fun cdv A outer s H vs Q E hr h => ?_)
 obtain ⟨c, a, f, hd, pt, bx, m, s, rfl, hC, ha, k⟩ := h
 refine ⟨_, (pss_one (ps_ret (pe_and (pe_meth (fldK K (pv 0) rfl) T.places.Field.C T.places.Field_has.m (ok_Field_has T) (hr.mono (by decide)) T.places.Field_has.b .nil pass0 (pa_cons (xT K (pv 1) pe_int) (pa_cons (xT K (pv 1) pe_int) pa_nil))) (pe_one (cG T.motion.is_speed (ok_is_speed T) hr (pa_cons (xT K (pv 1) pe_int) (pa_cons (xT K (pv 1) pe_int) pa_nil))))))), ?_⟩
 try dsimp only [cxOf]
 unfold StT at ha
 have hF := hC.field
 have hFp := hC.fp
 have eh : m.here s = (inFld m.w m.h s.x s.y && isSp s.vx s.vy) := by
   unfold Sr40.Map_.here Sr40.okSpeed Sr40.SPEED isSp
   rw [inField_eq, Bool.and_assoc]
 walk_at "go"
 refine ⟨f, m.w, m.h, _, _, rfl, hFp, ?_⟩
 walk_at "go"
 refine ite2 (fun h1 => ?_) (fun h1 => ?_)
 · walk_at "go"
   refine ⟨_, _, rfl, ?_⟩
   refine qbl k ?_
   rw [eh, h1, Bool.true_and]
 · refine qbl k ?_
   rw [Bool.not_eq_true] at h1
   rw [eh, h1, Bool.false_and]
theorem sc_Chart_is_there : FnScope ["self", "state"] ["self", "state"] (defScope (inClass (top 17) 2)) := fS
def sp_Chart_is_there (T : Txt K mg) : Sp := fun vs H Q _ => ∃ (c a f hd pt bx : Addr) (m : Sr40.Map_) (s : Sr40.State), vs = [.ref c, .ref a] ∧ ChartIs T H c m f hd pt bx ∧ StT K H a s ∧ ∀ H', Same H H' → Q (.bl (m.there s)) H'
theorem ok_Chart_is_there (T : Txt K mg) : FnOk P w K mg base CX0 1 T.chart.Chart_is_there.a T.chart.Chart_is_there.fd ["self", "state"] (sp_Chart_is_there T) := by
 refine T.chart.Chart_is_there.F.ok sc_Chart_is_there (fun _ _ _ _ h => by obtain ⟨c, a, f, hd, pt, bx, m, s, rfl, _⟩ := h; rfl) (fun cdv A outer s H vs Q E hr h => ?_)
 obtain ⟨c, a, f, hd, pt, bx, m, s, rfl, hC, ha, k⟩ := h
 refine ⟨_, (pss_one (ps_ret (pe_cmpR (eqK K hr.units) (pv 1) (pe_tup (pa_cons (xT K (fldK K (pv 0) rfl) pe_int) (pa_cons (xT K (fldK K (pv 0) rfl) pe_int) (pa_cons (xT K (fldK K (pv 0) rfl) pe_int) (pa_cons (xT K (fldK K (pv 0) rfl) pe_int) pa_nil))))) (nomark _)))), ?_⟩
 try dsimp only [cxOf]
 unfold StT at ha
 have h1 := hC.head
 have h2 := hC.port
 walk_at "go"
 refine w_small (by show 4 ≤ 1000; decide) fun t ht => ?_
 have s1 : Same H (upd H t (.tup [.int m.px, .int m.py, .int (Sr40.dx m.dir), .int (Sr40.dy m.dir)])) := Same.new ht
 refine ⟨_, _, dp4 (s1.tup ha), dp4 (SqT.of upd_same), rfl, rfl, ?_⟩
 rw [eq4]
 refine qbl (k _ s1) ?_
 rw [Bool.eq_iff_iff, there_eq]
 simp only [Bool.and_eq_true, decide_eq_true_eq]
 constructor
 · rintro ⟨⟨a1, a2⟩, a3, a4⟩
   exact ⟨a3, a4, a1, a2⟩
 · rintro ⟨a3, a4, a1, a2⟩
   exact ⟨⟨a1, a2⟩, a3, a4⟩
end
section
variable {P : Program} {w : World} {K : PySem.W.Frag} {mg : Str → Option Value} {base : Heap}
theorem soonB_snoc {w h : Nat} {a b : Int} : ∀ (l : List Sr39.Box) (p : Nat) (j : Nat) (bx : Sr39.Box), l[j]? = some bx → soonB w h a b p (l.take (j + 1)) = soonB w h a b p (l.take j) ||| block w h (bx.x1 - a / 6) (bx.y1 - b / 6) (bx.x2 + (-a) / 6) (bx.y2 + (-b) / 6)
 | [], p, j, bx, e => by simp at e
 | c :: r, p, 0, bx, e => by
   simp at e
   subst e
   rfl
 | c :: r, p, j + 1, bx, e => by
   have e : r[j]? = some bx := by simpa using e
   exact soonB_snoc r _ j bx e
theorem w_while {c : TT} {tb : TS} {D : Ends} {σ : L2.St} {H : Hp} (W : Nat → L2.St → Hp → Prop) {m0 : Nat} (h0 : W m0 σ H)
   (hs : ∀ m σ H, W m σ H → c σ H fun b H1 => if b = true then ∃ N : L2.St → Hp → Prop, (∀ σ' H', N σ' H' → ∃ m', m' < m ∧ W m' σ' H') ∧ tb { D with nx := N, ct := N, bk := D.nx } σ H1 else D.nx σ H1) : tWhile c tb D σ H := ⟨W, ⟨m0, h0⟩, hs⟩
theorem sc_touching_soon : FnScope ["chart", "speed", "places", "sixths", "across", "along", "box"] ["chart", "speed"] (defScope (top 26)) := fS
def sp_touching_soon (T : Txt K mg) : Sp := fun vs H Q _ => ∃ (c a f hd pt bx : Addr) (m : Sr40.Map_) (vx vy : Int), vs = [.ref c, .ref a] ∧ ChartIs T H c m f hd pt bx ∧ GoodM m ∧ SqT K H a [.int vx, .int vy] ∧ (-3 ≤ vx ∧ vx ≤ 3 ∧ -3 ≤ vy ∧ vy ≤ 3) ∧ Q (.int ((soon m.w m.h m.boxes vx vy : Nat) : Int)) H
theorem ok_touching_soon (T : Txt K mg) : FnOk P w K mg base CX0 2 T.drift.touching_soon.a T.drift.touching_soon.fd ["chart", "speed"] (sp_touching_soon T) := by
 refine T.drift.touching_soon.F.ok sc_touching_soon (fun _ _ _ _ h => by obtain ⟨c, a, f, hd, pt, bx, m, vx, vy, rfl, _⟩ := h; rfl) (fun cdv A outer s H vs Q E hr h => ?_)
 obtain ⟨c, a, f, hd, pt, bx, m, vx, vy, rfl, hC, g, ha, hv, k⟩ := h
 refine ⟨_, (pss_cons (sA 2 sc_touching_soon.nd pe_int)
  (pss_cons (ps_for PassesOwn.never rfl (pi_range1 rfl T.n_range (pa_cons pe_int pa_nil)) (gN 3 sc_touching_soon.nd) (pss_cons (sA 4 sc_touching_soon.nd (pe_op op_mul (pv 3) (xT K (pv 1) pe_int)))
  (pss_cons (sA 5 sc_touching_soon.nd (pe_op op_mul (pv 3) (xT K (pv 1) pe_int)))
  (pss_one (ps_for PassesOwn.never rfl (ilK K (fldK K (pv 0) rfl)) (gN 6 sc_touching_soon.nd) (pss_one (sA 2 sc_touching_soon.nd (pe_op op_or (pv 2) (pe_meth (fldK K (pv 0) rfl) T.places.Field.C T.places.Field_block.m (ok_Field_block T) (hr.mono (by decide)) T.places.Field_block.b .nil pass0 (pa_cons (pe_op op_sub (xT K (pv 6) pe_int) (pe_op op_fdiv (pv 4) pe_int)) (pa_cons (pe_op op_sub (xT K (pv 6) pe_int) (pe_op op_fdiv (pv 5) pe_int)) (pa_cons (pe_op op_add (xT K (pv 6) pe_int) (pe_op op_fdiv (pe_un un_neg (pv 4)) pe_int)) (pa_cons (pe_op op_add (xT K (pv 6) pe_int) (pe_op op_fdiv (pe_un un_neg (pv 5)) pe_int)) pa_nil)))))))))))))
  (pss_one (ps_ret (pv 2))))), ?_⟩
 try dsimp only [cxOf]
 have hF := hC.field
 have hFp := hC.fp
 obtain ⟨xs, hxs, hbs⟩ := hC.boxes
 walk_at "go"
 refine ⟨_, rfl, by decide, by decide, ?_⟩
 refine for_range (fun i σ' H' => H' = H ∧ ∃ v1 v2 v3 v4, σ' = [some (.ref c), some (.ref a), some (.int ((soonN m.w m.h m.boxes vx vy i : Nat) : Int)), v1, v2, v3, v4]) ⟨rfl, _, _, _, _, rfl⟩ ?_ ?_
 · rintro i σ' H' hi ⟨rfl, v1, v2, v3, v4, rfl⟩
   have hi6 : i < 6 := hi
   have e0 : (0 : Int) + (i : Int) = i := by omega
   rw [e0]
   have b1 : -18 ≤ (i : Int) * vx ∧ (i : Int) * vx ≤ 18 := by
     rcases cases7 hv.1 hv.2.1 with e | e | e | e | e | e | e <;> rw [e] <;> omega
   have b2 : -18 ≤ (i : Int) * vy ∧ (i : Int) * vy ≤ 18 := by
     rcases cases7 hv.2.2.1 hv.2.2.2 with e | e | e | e | e | e | e <;> rw [e] <;> omega
   walk_at "go"
   refine ⟨_, rfl, ⟨_, hxs⟩, ?_⟩
   refine for_list (K := K) (xs := xs) (fun j σ' H'' => H'' = H' ∧ ∃ v, σ' = [some (.ref c), some (.ref a), some (.int ((soonB m.w m.h ((i : Int) * vx) ((i : Int) * vy) (soonN m.w m.h m.boxes vx vy i) (m.boxes.take j) : Nat) : Int)), some (.int (i : Int)), some (.int ((i : Int) * vx)), some (.int ((i : Int) * vy)), v]) ⟨rfl, _, rfl⟩ (fun j σ' H'' _ q => by rw [q.1]; exact hxs) ?_ ?_
   · rintro j x σ' H'' hj ⟨rfl, v, rfl⟩
     obtain ⟨b, hbj, ab, rfl, hab⟩ := paired_get' hbs hj
     have B := g.box b (List.mem_of_getElem? hbj)
     have := B.y0
     have := B.yy
     have := B.yh
     have := g.h2
     walk_at "go"
     refine ⟨f, m.w, m.h, _, _, _, _, rfl, hFp, by omega, ?_⟩
     walk_at "go"
     rw [soonB_snoc m.boxes _ j b hbj]
     exact ⟨rfl, _, rfl⟩
   · rintro σ' H'' ⟨rfl, v, rfl⟩
     walk_at "go"
     rw [Paired.length hbs, List.take_length]
     exact ⟨rfl, _, _, _, _, rfl⟩
 · rintro σ' H' ⟨rfl, v1, v2, v3, v4, rfl⟩
   walk_at "go"
   exact k
theorem sc_touching_ever : FnScope ["field", "soon", "speed", "places", "tick"] ["field", "soon", "speed"] (defScope (top 27)) := fS
def sp_touching_ever (T : Txt K mg) : Sp := fun vs H Q _ => ∃ (f a : Addr) (w h S : Nat) (vx vy : Int), vs = [.ref f, .int (S : Int), .ref a] ∧ FieldAt T H f w h ∧ FieldP T H f w h ∧ InF w h S ∧ SqT K H a [.int vx, .int vy] ∧ (-3 ≤ vx ∧ vx ≤ 3 ∧ -3 ≤ vy ∧ vy ≤ 3) ∧ Q (.int ((ever w h S vx vy : Nat) : Int)) H
theorem ok_touching_ever (T : Txt K mg) : FnOk P w K mg base CX0 2 T.drift.touching_ever.a T.drift.touching_ever.fd ["field", "soon", "speed"] (sp_touching_ever T) := by
 refine T.drift.touching_ever.F.ok sc_touching_ever (fun _ _ _ _ h => by obtain ⟨f, a, w, h, S, vx, vy, rfl, _⟩ := h; rfl) (fun cdv A outer s H vs Q E hr h => ?_)
 obtain ⟨f, a, w, h, S, vx, vy, rfl, hF, hFp, hS, ha, hv, k⟩ := h
 refine ⟨_, (pss_cons (sA 3 sc_touching_ever.nd (pv 1))
  (pss_cons (ps_for PassesOwn.never rfl (pi_range1 rfl T.n_range (pa_cons (pe_callB (cm_max rfl) rfl T.n_max boot_max (pa_cons (fldK K (pv 0) rfl) (pa_cons (fldK K (pv 0) rfl) pa_nil))) pa_nil)) (gN 4 sc_touching_ever.nd) (pss_one (sA 3 sc_touching_ever.nd (pe_op op_or (pv 1) (pe_meth (pv 0) T.places.Field.C T.places.Field_before.m (ok_Field_before T) (hr.mono (by decide)) T.places.Field_before.b .nil pass0 (pa_cons (pv 3) (pa_cons (xT K (pv 2) pe_int) (pa_cons (xT K (pv 2) pe_int) pa_nil))))))))
  (pss_one (ps_ret (pv 3))))), ?_⟩
 try dsimp only [cxOf]
 have h1 := hFp.w32
 have h2 := hFp.h32
 walk_at "go"
 refine ⟨_, rfl, by omega, by omega, ?_⟩
 refine for_range (fun i σ' H' => H' = H ∧ ∃ v, σ' = [some (.ref f), some (.int (S : Int)), some (.ref a), some (.int ((everN w h S vx vy i : Nat) : Int)), v]) ⟨rfl, _, rfl⟩ ?_ ?_
 · rintro i σ' H' hi ⟨rfl, v, rfl⟩
   walk_at "go"
   refine ⟨f, w, h, everN w h S vx vy i, vx, vy, rfl, hF, hFp, everN_in hS i, hv, ?_⟩
   walk_at "go"
   exact ⟨rfl, _, rfl⟩
 · rintro σ' H' ⟨rfl, v, rfl⟩
   walk_at "go"
   refine qint k ?_
   unfold ever
   have e : max w h = (max (w : Int) (h : Int)).toNat := by omega
   rw [e]
theorem sc_coming_to_port : FnScope ["chart", "soon", "field", "latest", "places"] ["chart", "soon"] (defScope (top 28)) := fS
def sp_coming_to_port (T : Txt K mg) : Sp := fun vs H Q _ => ∃ (c f hd pt bx : Addr) (m : Sr40.Map_) (S : Nat), vs = [.ref c, .int (S : Int)] ∧ ChartIs T H c m f hd pt bx ∧ GoodM m ∧ Q (.int ((comN m.w m.h S (portB m) (Sr40.dx m.dir) (Sr40.dy m.dir) 33 : Nat) : Int)) H
theorem ok_coming_to_port (T : Txt K mg) : FnOk P w K mg base CX0 2 T.drift.coming_to_port.a T.drift.coming_to_port.fd ["chart", "soon"] (sp_coming_to_port T) := by
 refine T.drift.coming_to_port.F.ok sc_coming_to_port (fun _ _ _ _ h => by obtain ⟨c, f, hd, pt, bx, m, S, rfl, _⟩ := h; rfl) (fun cdv A outer s H vs Q E hr h => ?_)
 obtain ⟨c, f, hd, pt, bx, m, S, rfl, hC, g, k⟩ := h
 refine ⟨_, (pss_cons (sA 2 sc_coming_to_port.nd (fldK K (pv 0) rfl))
  (pss_cons (sA 3 sc_coming_to_port.nd (pe_meth (pv 2) T.places.Field.C T.places.Field_place.m (ok_Field_place T) (hr.mono (by decide)) T.places.Field_place.b .nil pass0 (pa_cons (xT K (fldK K (pv 0) rfl) pe_int) (pa_cons (xT K (fldK K (pv 0) rfl) pe_int) pa_nil))))
  (pss_cons (sA 4 sc_coming_to_port.nd pe_int)
  (pss_cons (ps_while PassesOwn.never (pt_cmpR op_ne (pv 3) pe_int (nomark _)) (pss_cons (sA 4 sc_coming_to_port.nd (pe_op op_or (pv 4) (pv 3)))
  (pss_one (sA 3 sc_coming_to_port.nd (pe_op op_and (pe_meth (pv 2) T.places.Field.C T.places.Field_before.m (ok_Field_before T) (hr.mono (by decide)) T.places.Field_before.b .nil pass0 (pa_cons (pv 3) (pa_cons (xT K (fldK K (pv 0) rfl) pe_int) (pa_cons (xT K (fldK K (pv 0) rfl) pe_int) pa_nil)))) (pe_un un_inv (pv 1)))))))
  (pss_one (ps_ret (pv 4))))))), ?_⟩
 try dsimp only [cxOf]
 have hF := hC.field
 have hFp := hC.fp
 have hp := hC.port
 have hh := hC.head
 have hsp := dir_sp g
 unfold isSp at hsp
 simp only [Bool.and_eq_true, decide_eq_true_eq] at hsp
 walk_at "go"
 refine ⟨f, m.w, m.h, _, _, rfl, hFp, g.port_in, ?_⟩
 walk_at "go"
 refine w_while (fun n σ' H' => H' = H ∧ ∃ i, n = 33 - i ∧ i ≤ 33 ∧ σ' = [some (.ref c), some (.int (S : Int)), some (.ref f), some (.int ((latN m.w m.h S (portB m) (Sr40.dx m.dir) (Sr40.dy m.dir) i : Nat) : Int)), some (.int ((comN m.w m.h S (portB m) (Sr40.dx m.dir) (Sr40.dy m.dir) i : Nat) : Int))]) (m0 := 33) ⟨rfl, 0, rfl, by decide, rfl⟩ ?_
 rintro n σ' H' ⟨rfl, i, rfl, hi, rfl⟩
 walk_at "go"
 refine ite2 (fun hc => ?_) (fun hc => ?_)
 · have hz : latN m.w m.h S (portB m) (Sr40.dx m.dir) (Sr40.dy m.dir) i ≠ 0 := fun e => by rw [e] at hc; cases hc
   have hi33 : i ≠ 33 := fun e => hz (by rw [e]; exact lat_33 g)
   refine ⟨fun σ' H'' => H'' = H' ∧ σ' = [some (.ref c), some (.int (S : Int)), some (.ref f), some (.int ((latN m.w m.h S (portB m) (Sr40.dx m.dir) (Sr40.dy m.dir) (i + 1) : Nat) : Int)), some (.int ((comN m.w m.h S (portB m) (Sr40.dx m.dir) (Sr40.dy m.dir) (i + 1) : Nat) : Int))], ?_, ?_⟩
   · rintro σ' H'' ⟨rfl, rfl⟩
     exact ⟨33 - (i + 1), by omega, rfl, i + 1, rfl, by omega, rfl⟩
   · walk_at "go"
     refine ⟨f, m.w, m.h, _, _, _, rfl, hF, hFp, latN_in (portB_in g) i, by omega, ?_⟩
     walk_at "go"
     exact ⟨rfl, rfl⟩
 · have hz : latN m.w m.h S (portB m) (Sr40.dx m.dir) (Sr40.dy m.dir) i = 0 := by
     simp only [Bool.not_eq_true', decide_eq_false_iff_not, Classical.not_not] at hc
     omega
   walk_at "go"
   refine qint k ?_
   have := com_stop hz (33 - i)
   rw [show i + (33 - i) = 33 by omega] at this
   rw [this]
end
section
variable {P : Program} {w : World} {K : PySem.W.Frag} {mg : Str → Option Value} {base : Heap}
theorem sc_harmless_places : FnScope ["chart", "speed", "field", "soon", "harmless"] ["chart", "speed"] (defScope (top 25)) := fS
def sp_harmless_places (T : Txt K mg) : Sp := fun vs H Q _ => ∃ (c a f hd pt bx : Addr) (m : Sr40.Map_) (vx vy : Int), vs = [.ref c, .ref a] ∧ ChartIs T H c m f hd pt bx ∧ GoodM m ∧ SqT K H a [.int vx, .int vy] ∧ (-3 ≤ vx ∧ vx ≤ 3 ∧ -3 ≤ vy ∧ vy ≤ 3) ∧ Q (.int ((harm m vx vy : Nat) : Int)) H
theorem ok_harmless_places (T : Txt K mg) : FnOk P w K mg base CX0 3 T.drift.harmless_places.a T.drift.harmless_places.fd ["chart", "speed"] (sp_harmless_places T) := by
 refine T.drift.harmless_places.F.ok sc_harmless_places (fun _ _ _ _ h => by obtain ⟨c, a, f, hd, pt, bx, m, vx, vy, rfl, _⟩ := h; rfl) (fun cdv A outer s H vs Q E hr h => ?_)
 obtain ⟨c, a, f, hd, pt, bx, m, vx, vy, rfl, hC, g, ha, hv, k⟩ := h
 refine ⟨_, (pss_cons (sA 2 sc_harmless_places.nd (fldK K (pv 0) rfl))
  (pss_cons (sA 3 sc_harmless_places.nd (cG T.drift.touching_soon (ok_touching_soon T) hr (pa_cons (pv 0) (pa_cons (pv 1) pa_nil))))
  (pss_cons (sA 4 sc_harmless_places.nd (pe_op op_and (fldK K (pv 2) rfl) (pe_un un_inv (cG T.drift.touching_ever (ok_touching_ever T) hr (pa_cons (pv 2) (pa_cons (pv 3) (pa_cons (pv 1) pa_nil)))))))
  (pss_cons (ps_if (pt_cmpR (eqK K hr.units) (pv 1) (fldK K (pv 0) rfl) (nomark _)) (pss_one (sA 4 sc_harmless_places.nd (pe_op op_or (pv 4) (cG T.drift.coming_to_port (ok_coming_to_port T) hr (pa_cons (pv 0) (pa_cons (pv 3) pa_nil)))))) pss_nil)
  (pss_one (ps_ret (pv 4))))))), ?_⟩
 try dsimp only [cxOf]
 have hF := hC.field
 have hFp := hC.fp
 have hh := hC.head
 walk_at "go"
 refine ⟨c, a, f, hd, pt, bx, m, vx, vy, rfl, hC, g, ha, hv, ?_⟩
 walk_at "go"
 refine ⟨f, a, m.w, m.h, _, vx, vy, rfl, hF, hFp, soon_in, ha, hv, ?_⟩
 walk_at "go"
 refine w_eqT ha hh ?_
 walk_at "go"
 refine ite2 (fun hc => ?_) (fun hc => ?_)
 · simp only [Bool.and_eq_true, decide_eq_true_eq] at hc
   walk_at "go"
   refine ⟨c, f, hd, pt, bx, m, _, rfl, hC, g, ?_⟩
   walk_at "go"
   refine qint k ?_
   unfold harm
   dsimp only
   rw [if_pos hc, ← hc.1, ← hc.2]
 · simp only [Bool.and_eq_true, decide_eq_true_eq] at hc
   walk_at "go"
   refine qint k ?_
   unfold harm
   dsimp only
   rw [if_neg hc]
def setsV (f : Nat → Nat) : List V := (List.range 49).map fun k => V.int ((f k : Nat) : Int)
theorem setsV_len (f : Nat → Nat) : (setsV f).length = 49 := by unfold setsV; rw [List.length_map, List.length_range]
theorem setsV_get {f : Nat → Nat} {k : Nat} (h : k < 49) : (setsV f)[k]? = some (V.int ((f k : Nat) : Int)) := by
 unfold setsV
 rw [List.getElem?_map, List.getElem?_range h]
 rfl
theorem setsV_at {f : Nat → Nat} {z : Int} {k : Nat} (e : z = (k : Int)) (h : k < 49) : atI (setsV f) z = some (V.int ((f k : Nat) : Int)) := at_of e (setsV_get h)
def driftsFs (f hl : Addr) : List (Str × V) := [("field", .ref f), ("harmless", .ref hl)]
structure DriftsIs (T : Txt K mg) (H : Hp) (d : Addr) (m : Sr40.Map_) (f hl : Addr) : Prop where
 at_ : ∃ dx, H d = some (.ins T.drift.Drifts.A dx (driftsFs f hl))
 field : FieldAt T H f m.w m.h
 fp : FieldP T H f m.w m.h
 harm : H hl = some (.lst (setsV (harmF m)))
theorem DriftsIs.mono {T : Txt K mg} {H H' : Hp} (s : Same H H') {d : Addr} {m : Sr40.Map_} {f hl : Addr} (D : DriftsIs T H d m f hl) : DriftsIs T H' d m f hl := by
 obtain ⟨dx, e⟩ := D.at_
 exact ⟨⟨dx, s _ _ e⟩, D.field.mono s, D.fp.mono s, s _ _ D.harm⟩
theorem r_dfield {T : Txt K mg} {H : Hp} {c : Addr} {m : Sr40.Map_} {f hl : Addr} {Q : VK} (C : DriftsIs T H c m f hl) (q : Q (.ref f) H) : FldR K "field" (.ref c) H Q := by
 obtain ⟨dx, e⟩ := C.at_
 exact w_fldR e T.drift.Drifts.C T.drift.Drifts.na.1 rfl q
theorem r_harmless {T : Txt K mg} {H : Hp} {c : Addr} {m : Sr40.Map_} {f hl : Addr} {Q : VK} (C : DriftsIs T H c m f hl) (q : Q (.ref hl) H) : FldR K "harmless" (.ref c) H Q := by
 obtain ⟨dx, e⟩ := C.at_
 exact w_fldR e T.drift.Drifts.C T.drift.Drifts.na.2.1 rfl q
theorem sc_Drifts_init : FnScope ["self", "chart", "k"] ["self", "chart"] (defScope (inClass (top 24) 0)) := fS
def sp_Drifts_init (T : Txt K mg) : Sp := fun vs H Q _ => ∃ (p dx c f hd pt bx : Addr) (m : Sr40.Map_), vs = [.ref p, .ref c] ∧ H p = some (.ins T.drift.Drifts.A dx []) ∧ ChartIs T H c m f hd pt bx ∧ GoodM m ∧ ∀ H' hl, DriftsIs T H' p m f hl → (∀ b o, H b = some o → b ≠ p → H' b = some o) → Q .non H'
theorem ok_Drifts_init (T : Txt K mg) : FnOk P w K mg base CX0 4 T.drift.Drifts_init.a T.drift.Drifts_init.fd ["self", "chart"] (sp_Drifts_init T) := by
 refine T.drift.Drifts_init.F.ok sc_Drifts_init (fun _ _ _ _ h => by obtain ⟨p, dx, c, f, hd, pt, bx, m, rfl, _⟩ := h; rfl) (fun cdv A outer s H vs Q E hr h => ?_)
 obtain ⟨p, dx, c, f, hd, pt, bx, m, rfl, hp, hC, g, k⟩ := h
 refine ⟨_, (pss_cons (sfldK K (pv 0) (fldK K (pv 1) rfl) rfl)
  (pss_one (sfldK K (pv 0) (pe_lc rfl sc_Drifts_init.nd (pi_range1 rfl T.n_range (pa_cons (pe_glob rfl T.motion.SPEED_COUNT.g T.motion.SPEED_COUNT.r) pa_nil)) (own := [("k", 2)]) (blkOk_by (by show blkC ["self", "chart", "k"] (defScope (inClass (top 24) 0)) _ _ = true; decide +kernel)) (fun _ _ _ _ _ => (gN 2 sc_Drifts_init.nd)) (fun _ _ _ _ _ => pts_nil) (fun _ _ _ _ _ => (cG T.drift.harmless_places (ok_harmless_places T) hr (pa_cons (pv 1) (pa_cons (cG T.motion.speed_parts (ok_speed_parts T) hr (pa_cons (pv 2) pa_nil)) pa_nil))))) rfl))), ?_⟩
 try dsimp only [cxOf]
 have npc : c ≠ p := by
   obtain ⟨cx, e⟩ := hC.at_
   exact fun q => by
     rw [q, hp] at e
     have e2 := Option.some.inj e
     injection e2 with _ _ e3
     cases e3
 have npf : f ≠ p := by
   obtain ⟨cx, e⟩ := hC.field
   exact fun q => by
     rw [q, hp] at e
     have e2 := Option.some.inj e
     injection e2 with _ _ e3
     cases e3
 -- what a change of p leaves
 have keepT : ∀ (o : HO) a ys, SqT K H a ys → SqT K (upd H p o) a ys := fun o a ys q => sqT_updI q hp
 have keepC : ∀ o, ChartIs T (upd H p o) c m f hd pt bx := fun o => by
   obtain ⟨cx, e⟩ := hC.at_
   obtain ⟨fx, e2⟩ := hC.field
   have hF : FieldAt T (upd H p o) f m.w m.h := ⟨fx, by rw [upd_ne npf]; exact e2⟩
   exact ⟨⟨cx, by rw [upd_ne npc]; exact e⟩, hF, hF.p hC.fp.w32 hC.fp.h32, sqT_updI hC.head hp, sqT_updI hC.port hp, boxL_updI hC.boxes hp⟩
 walk_at "go"
 refine w_sfldR hp T.drift.Drifts.C T.drift.Drifts.na.1 (show 0 < 1000 by decide) ?_
 have hC1 := keepC (.ins T.drift.Drifts.A dx (putF "field" (.ref f) []))
 have hp1 : upd H p (.ins T.drift.Drifts.A dx (putF "field" (.ref f) [])) p = some (.ins T.drift.Drifts.A dx (putF "field" (.ref f) [])) := upd_same
 have rd : ∀ b o, H b = some o → b ≠ p → upd H p (.ins T.drift.Drifts.A dx (putF "field" (.ref f) [])) b = some o := fun b o e hb => by rw [upd_ne hb]; exact e
 generalize upd H p (.ins T.drift.Drifts.A dx (putF "field" (.ref f) [])) = H1 at hC1 hp1 rd ⊢
 walk_at "go"
 refine ⟨_, rfl, by decide, by decide, ?_⟩
 intro D hD
 refine lc_range (fun i H' => Same H1 H' ∧ H' D = some (.lst ((List.range i).map fun k => V.int ((harmF m k : Nat) : Int)))) ⟨Same.new hD, upd_same⟩ ?_ ?_
 · rintro i H' hi ⟨s1, hy⟩
   have hi : i < 49 := hi
   have hC2 := hC1.mono s1
   walk_at "go"
   refine ⟨rfl, ?_⟩
   walk_at "go"
   refine ⟨_, rfl, fun t H2 ht e => ?_⟩
   subst e
   have s2 := s1.trans (Same.new (o := .tup [.int ((0 + (i : Int)) / 7 - 3), .int ((0 + (i : Int)) % 7 - 3)]) ht)
   walk_at "go"
   refine ⟨c, t, f, hd, pt, bx, m, _, _, rfl, hC1.mono s2, g, SqT.of upd_same, by omega, ?_⟩
   have hy2 : (upd H' t (.tup [.int ((0 + (i : Int)) / 7 - 3), .int ((0 + (i : Int)) % 7 - 3)])) D = some (.lst ((List.range i).map fun k => V.int ((harmF m k : Nat) : Int))) := by
     rw [upd_ne (fun e => by rw [← e, hy] at ht; cases ht)]
     exact hy
   refine ⟨_, hy2, small100 (by rw [List.length_map, List.length_range]; omega), s2.set hD, ?_⟩
   rw [upd_same, List.range_succ, List.map_append]
   have e1 : (0 + (i : Int)) / 7 - 3 = vxOf i := by unfold vxOf; omega
   have e2 : (0 + (i : Int)) % 7 - 3 = vyOf i := by unfold vyOf; omega
   rw [e1, e2]
   rfl
 · rintro H' ⟨s1, hy⟩
   have hp2 := s1 _ _ hp1
   have hDp : D ≠ p := fun e => by rw [e, hp1] at hD; cases hD
   walk_at "go"
   refine w_sfldR hp2 T.drift.Drifts.C T.drift.Drifts.na.2.1 (show 1 < 1000 by decide) ?_
   have hC2 := hC1.mono s1
   obtain ⟨fx, e2⟩ := hC2.field
   have hF : FieldAt T (upd H' p (.ins T.drift.Drifts.A dx (putF "harmless" (.ref D) (putF "field" (.ref f) [])))) f m.w m.h := ⟨fx, by rw [upd_ne npf]; exact e2⟩
   refine k _ D ⟨⟨dx, upd_same⟩, hF, hF.p hC2.fp.w32 hC2.fp.h32, (by rw [upd_ne hDp]; exact hy)⟩ fun b o e hb => ?_
   rw [upd_ne hb]
   exact s1 _ _ (rd _ _ e hb)
theorem num_cast {s : Sr40.State} (h : isSp s.vx s.vy = true) : 7 * (s.vx + 3) + s.vy + 3 = ((numV s.vx s.vy : Nat) : Int) := by
 unfold isSp at h
 simp only [Bool.and_eq_true, decide_eq_true_eq] at h
 unfold numV
 omega
theorem has_bit {m : Sr40.Map_} {f : Nat → Nat} {s : Sr40.State} (hf : InFd m s) : (!decide (((f (numV s.vx s.vy) &&& placeB m.w s.x.toNat s.y.toNat : Nat) : Int) = 0)) = hasS m f s := by
 unfold hasS
 rw [hasP_in hf, Bool.eq_iff_iff, ← and_place]
 simp only [Bool.not_eq_true', decide_eq_false_iff_not]
 constructor
 · intro h1 h2
   exact h1 (by rw [h2]; rfl)
 · intro h1 h2
   exact h1 (by exact_mod_cast h2)
theorem sc_Drifts_is_harmless : FnScope ["self", "state", "place"] ["self", "state"] (defScope (inClass (top 24) 1)) := fS
def sp_Drifts_is_harmless (T : Txt K mg) : Sp := fun vs H Q _ => ∃ (d a f hl : Addr) (m : Sr40.Map_) (s : Sr40.State), vs = [.ref d, .ref a] ∧ DriftsIs T H d m f hl ∧ StT K H a s ∧ InFd m s ∧ Slow s ∧ Q (.bl (hasS m (harmF m) s)) H
theorem ok_Drifts_is_harmless (T : Txt K mg) : FnOk P w K mg base CX0 2 T.drift.Drifts_is_harmless.a T.drift.Drifts_is_harmless.fd ["self", "state"] (sp_Drifts_is_harmless T) := by
 refine T.drift.Drifts_is_harmless.F.ok sc_Drifts_is_harmless (fun _ _ _ _ h => by obtain ⟨d, a, f, hl, m, s, rfl, _⟩ := h; rfl) (fun cdv A outer s H vs Q E hr h => ?_)
 obtain ⟨d, a, f, hl, m, s, rfl, hD, ha, hf, hs, k⟩ := h
 refine ⟨_, (pss_cons (sA 2 sc_Drifts_is_harmless.nd (pe_meth (fldK K (pv 0) rfl) T.places.Field.C T.places.Field_place.m (ok_Field_place T) (hr.mono (by decide)) T.places.Field_place.b .nil pass0 (pa_cons (xT K (pv 1) pe_int) (pa_cons (xT K (pv 1) pe_int) pa_nil))))
  (pss_one (ps_ret (pe_cmpR op_ne (pe_op op_and (xL K (fldK K (pv 0) rfl) (cG T.motion.speed_number (ok_speed_number T) hr (pa_cons (xT K (pv 1) pe_int) (pa_cons (xT K (pv 1) pe_int) pa_nil)))) (pv 2)) pe_int (nomark _))))), ?_⟩
 try dsimp only [cxOf]
 unfold StT at ha
 have hF := hD.field
 have hFp := hD.fp
 have hl0 := SqL.of (K := K) hD.harm
 have hsp := sp_of hs
 walk_at "go"
 refine r_dfield hD ?_
 walk_at "go"
 refine ⟨f, m.w, m.h, _, _, rfl, hFp, hf, ?_⟩
 walk_at "go"
 refine r_harmless hD ?_
 walk_at "go"
 refine ⟨_, _, rfl, ?_⟩
 refine w_ixL hl0 (setsV_at (num_cast hsp) (numV_lt hsp)) ?_
 walk_at "go"
 refine qbl k ?_
 exact (has_bit hf).symm
end
section
variable {P : Program} {w : World} {K : PySem.W.Frag} {mg : Str → Option Value} {base : Heap}
theorem DriftsIs.meth {T : Txt K mg} {H : Hp} {d : Addr} {m : Sr40.Map_} {f hl : Addr} {R : Prop} {x : Str} (D : DriftsIs T H d m f hl) (hx : (driftsFs f hl).lookup x = none) (q : R) : MethR T.drift.Drifts.A x (.ref d) H R := by
 obtain ⟨dx, e⟩ := D.at_
 exact w_methR e hx q
theorem sc_Drifts_is_free : FnScope ["self", "state", "burn", "come"] ["self", "state", "burn"] (defScope (inClass (top 24) 2)) := fS
def sp_Drifts_is_free (T : Txt K mg) : Sp := fun vs H Q _ => ∃ (d a ab f hl : Addr) (m : Sr40.Map_) (s : Sr40.State) (b : Sr40.Burn), vs = [.ref d, .ref a, .ref ab] ∧ DriftsIs T H d m f hl ∧ StT K H a s ∧ BT K H ab b ∧ InFd m s ∧ Slow s ∧ b ∈ BUR ∧ isSp (s.vx + b.a) (s.vy + b.b) = true ∧ ∀ H', Same H H' → Q (.bl (freeP m s b)) H'
theorem ok_Drifts_is_free (T : Txt K mg) : FnOk P w K mg base CX0 3 T.drift.Drifts_is_free.a T.drift.Drifts_is_free.fd ["self", "state", "burn"] (sp_Drifts_is_free T) := by
 refine T.drift.Drifts_is_free.F.ok sc_Drifts_is_free (fun _ _ _ _ h => by obtain ⟨d, a, ab, f, hl, m, s, b, rfl, _⟩ := h; rfl) (fun cdv A outer s H vs Q E hr h => ?_)
 obtain ⟨d, a, ab, f, hl, m, s, b, rfl, hD, ha, hb, hf, hs, hB, hsp, k⟩ := h
 refine ⟨_, (pss_one (ps_ret (pe_callB (allK K rfl) rfl T.n_all boot_all (pa_cons (pe_lc rfl sc_Drifts_is_free.nd (ilK K (pe_op op_cat (pe_lst (pa_cons (pv 2) pa_nil)) (cG T.motion.less_than (ok_less_than T) hr (pa_cons (pv 2) pa_nil)))) (own := [("come", 3)]) (blkOk_by (by show blkC ["self", "state", "burn", "come"] (defScope (inClass (top 24) 2)) _ _ = true; decide +kernel)) (fun _ _ _ _ _ => (gN 3 sc_Drifts_is_free.nd)) (fun _ _ _ _ _ => pts_nil) (fun _ _ _ _ _ => (pe_meth (pv 0) T.drift.Drifts.C T.drift.Drifts_is_harmless.m (ok_Drifts_is_harmless T) (hr.mono (by decide)) T.drift.Drifts_is_harmless.b .nil pass0 (pa_cons (cG T.motion.behind_burn (ok_behind_burn T) hr (pa_cons (pv 1) (pa_cons (pv 3) pa_nil))) pa_nil)))) pa_nil)))), ?_⟩
 try dsimp only [cxOf]
 have sw : ∀ o ∈ (b :: lessT b), isSp (s.vx + o.a) (s.vy + o.b) = true := fun o ho => by
   rcases List.mem_cons.mp ho with e | h2
   · rw [e]
     exact hsp
   · exact outs_slow (sp_of hs) hsp ((lessT_outs hB).mp h2).1
 walk_at "go"
 refine w_small (by show 1 ≤ 1000; decide) fun l1 hl1 => ?_
 have s1 : Same H (upd H l1 (.lst [.ref ab])) := Same.new hl1
 have e1 : upd H l1 (.lst [.ref ab]) l1 = some (.lst [.ref ab]) := upd_same
 generalize upd H l1 (.lst [.ref ab]) = H1 at s1 e1 ⊢
 walk_at "go"
 refine ⟨ab, b, rfl, s1.tup hb, fun p H2 xs s2 e2 _ hxs => ?_⟩
 have hx9 : xs.length ≤ 9 := by
   rw [Paired.length hxs]
   exact List.length_filter_le _ _
 refine w_cat (s2 _ _ e1) e2 (by show 1 + xs.length ≤ 1000; omega) fun q hq => ?_
 have s3 : Same H (upd H2 q (.lst ([.ref ab] ++ xs))) := (s1.trans s2).trans (Same.new hq)
 have e3 : upd H2 q (.lst ([.ref ab] ++ xs)) q = some (.lst ([.ref ab] ++ xs)) := upd_same
 have hall : BVs K (upd H2 q (.lst ([.ref ab] ++ xs))) ([.ref ab] ++ xs) (b :: lessT b) := .cons ⟨ab, rfl, s3.tup hb⟩ (hxs.mono (Same.new hq))
 generalize upd H2 q (.lst ([.ref ab] ++ xs)) = H3 at s3 e3 hall ⊢
 refine ⟨_, rfl, ⟨_, SqL.of e3⟩, ?_⟩
 intro D hD0
 refine lc_list (K := K) (xs := [.ref ab] ++ xs) (fun i H' => Same H3 H' ∧ H' D = some (.lst ((((b :: lessT b).take i).map fun o => hasS m (harmF m) (wi s o)).map V.bl))) ⟨Same.new hD0, upd_same⟩ (fun i H' _ q => SqL.of (q.1 _ _ e3)) ?_ ?_
 · rintro i v H' hi ⟨s4, hy⟩
   obtain ⟨o, hoi, ao, rfl, hao⟩ := paired_get' hall hi
   have hom : o ∈ (b :: lessT b) := List.mem_of_getElem? hoi
   have s5 := s3.trans s4
   walk_at "go"
   refine ⟨rfl, ?_⟩
   walk_at "go"
   refine DriftsIs.meth (hD.mono s5) rfl ?_
   walk_at "go"
   refine ⟨a, ao, s.x, s.y, s.vx, s.vy, o.a, o.b, rfl, s5.tup ha, s4.tup hao, fun t H5 ht e => ?_⟩
   subst e
   have s6 := s5.trans (Same.new (o := .tup [.int s.x, .int s.y, .int (s.vx + o.a), .int (s.vy + o.b)]) ht)
   walk_at "go"
   refine ⟨d, t, f, hl, m, wi s o, rfl, hD.mono s6, SqT.of upd_same, hf, slow_wi (sw o hom), ?_⟩
   have hy2 : (upd H' t (.tup [.int s.x, .int s.y, .int (s.vx + o.a), .int (s.vy + o.b)])) D = some (.lst ((((b :: lessT b).take i).map fun o => hasS m (harmF m) (wi s o)).map V.bl)) := by
     rw [upd_ne (fun e => by rw [← e, hy] at ht; cases ht)]
     exact hy
   refine ⟨_, hy2, small100 ?_, (s4.trans (Same.new ht)).set hD0, ?_⟩
   · rw [List.length_map, List.length_map]
     have hz : (lessT b).length ≤ 9 := List.length_filter_le _ _
     exact Nat.le_trans (List.length_take_le' _ _) (by show (lessT b).length + 1 ≤ 1000; omega)
   · rw [upd_same, take_snoc hoi, List.map_append, List.map_append]
     rfl
 · rintro H' ⟨s4, hy⟩
   have e : (b :: lessT b).take ([V.ref ab] ++ xs).length = b :: lessT b := by
     rw [Paired.length hall, List.take_length]
   rw [e] at hy
   refine ⟨D, _, rfl, SqL.of hy, ?_⟩
   refine qbl (k H' (s3.trans s4)) ?_
   unfold freeP
   rw [List.all_map]
   rfl
theorem sc_has_state : FnScope ["field", "places_by_speed", "state"] ["field", "places_by_speed", "state"] (defScope (top 64)) := fS
def sp_has_state (T : Txt K mg) : Sp := fun vs H Q _ => ∃ (f l a : Addr) (m : Sr40.Map_) (F : Nat → Nat) (s : Sr40.State), vs = [.ref f, .ref l, .ref a] ∧ FieldAt T H f m.w m.h ∧ FieldP T H f m.w m.h ∧ SqL K H l (setsV F) ∧ StT K H a s ∧ Slow s ∧ Q (.bl (hasS m F s)) H
theorem ok_has_state (T : Txt K mg) : FnOk P w K mg base CX0 2 T.routes.has_state.a T.routes.has_state.fd ["field", "places_by_speed", "state"] (sp_has_state T) := by
 refine T.routes.has_state.F.ok sc_has_state (fun _ _ _ _ h => by obtain ⟨f, l, a, m, F, s, rfl, _⟩ := h; rfl) (fun cdv A outer s H vs Q E hr h => ?_)
 obtain ⟨f, l, a, m, F, s, rfl, hF, hFp, hl, ha, hs, k⟩ := h
 refine ⟨_, (pss_cons (ps_if (pt_not (pt_val (pe_meth (pv 0) T.places.Field.C T.places.Field_has.m (ok_Field_has T) (hr.mono (by decide)) T.places.Field_has.b .nil pass0 (pa_cons (xT K (pv 2) pe_int) (pa_cons (xT K (pv 2) pe_int) pa_nil))))) (pss_one (ps_ret pe_bl)) pss_nil)
  (pss_one (ps_ret (pe_cmpR op_ne (pe_op op_and (xL K (pv 1) (cG T.motion.speed_number (ok_speed_number T) hr (pa_cons (xT K (pv 2) pe_int) (pa_cons (xT K (pv 2) pe_int) pa_nil)))) (pe_meth (pv 0) T.places.Field.C T.places.Field_place.m (ok_Field_place T) (hr.mono (by decide)) T.places.Field_place.b .nil pass0 (pa_cons (xT K (pv 2) pe_int) (pa_cons (xT K (pv 2) pe_int) pa_nil)))) pe_int (nomark _))))), ?_⟩
 try dsimp only [cxOf]
 unfold StT at ha
 have hsp := sp_of hs
 walk_at "go"
 refine ⟨f, m.w, m.h, _, _, rfl, hFp, ?_⟩
 walk_at "go"
 refine ite2 (fun hc => ?_) (fun hc => ?_)
 · walk_at "go"
   refine qbl k ?_
   refine hasS_out fun h => ?_
   rw [inFld_in h] at hc
   cases hc
 · have hc : inFld m.w m.h s.x s.y = true := by simpa using hc
   have hf : InFd m s := inFld_iff.mp hc
   walk_at "go"
   refine ⟨_, _, rfl, ?_⟩
   refine w_ixL hl (setsV_at (num_cast hsp) (numV_lt hsp)) ?_
   walk_at "go"
   refine ⟨f, m.w, m.h, _, _, rfl, hFp, hf, ?_⟩
   walk_at "go"
   refine qbl k ?_
   exact (has_bit hf).symm
theorem sc_number_behind : FnScope ["speed", "come"] ["speed", "come"] (defScope (top 72)) := fS
def sp_number_behind (K : PySem.W.Frag) : Sp := fun vs H Q _ => ∃ (a b : Addr) (vx vy : Int) (c : Sr40.Burn), vs = [.ref a, .ref b] ∧ SqT K H a [.int vx, .int vy] ∧ BT K H b c ∧ isSp (vx + c.a) (vy + c.b) = true ∧ Q (.int ((numV (vx + c.a) (vy + c.b) : Nat) : Int)) H
theorem ok_number_behind (T : Txt K mg) : FnOk P w K mg base CX0 2 T.routes.number_behind.a T.routes.number_behind.fd ["speed", "come"] (sp_number_behind K) := by
 refine T.routes.number_behind.F.ok sc_number_behind (fun _ _ _ _ h => by obtain ⟨a, b, vx, vy, c, rfl, _⟩ := h; rfl) (fun cdv A outer s H vs Q E hr h => ?_)
 obtain ⟨a, b, vx, vy, c, rfl, ha, hb, hsp, k⟩ := h
 refine ⟨_, (pss_one (ps_ret (cG T.motion.speed_number (ok_speed_number T) hr (pa_cons (pe_op op_add (xT K (pv 0) pe_int) (xT K (pv 1) pe_int)) (pa_cons (pe_op op_add (xT K (pv 0) pe_int) (xT K (pv 1) pe_int)) pa_nil))))), ?_⟩
 try dsimp only [cxOf]
 walk_at "go"
 refine ⟨_, _, rfl, ?_⟩
 refine qint k ?_
 exact (num_cast (s := ⟨0, 0, vx + c.a, vy + c.b⟩) hsp).symm
theorem sc_before_drift : FnScope ["field", "places", "k", "speed"] ["field", "places", "k"] (defScope (top 73)) := fS
def sp_before_drift (T : Txt K mg) : Sp := fun vs H Q _ => ∃ (f : Addr) (w h S k : Nat), vs = [.ref f, .int (S : Int), .int (k : Int)] ∧ FieldAt T H f w h ∧ FieldP T H f w h ∧ InF w h S ∧ k < 49 ∧ ∀ H', Same H H' → Q (.int ((before w h S (vxOf k) (vyOf k) : Nat) : Int)) H'
theorem ok_before_drift (T : Txt K mg) : FnOk P w K mg base CX0 2 T.routes.before_drift.a T.routes.before_drift.fd ["field", "places", "k"] (sp_before_drift T) := by
 refine T.routes.before_drift.F.ok sc_before_drift (fun _ _ _ _ h => by obtain ⟨f, w, h, S, n, rfl, _⟩ := h; rfl) (fun cdv A outer s H vs Q E hr h => ?_)
 obtain ⟨f, w, h, S, n, rfl, hF, hFp, hS, hn, k⟩ := h
 refine ⟨_, (pss_cons (sA 3 sc_before_drift.nd (cG T.motion.speed_parts (ok_speed_parts T) hr (pa_cons (pv 2) pa_nil)))
  (pss_one (ps_ret (pe_meth (pv 0) T.places.Field.C T.places.Field_before.m (ok_Field_before T) (hr.mono (by decide)) T.places.Field_before.b .nil pass0 (pa_cons (pv 1) (pa_cons (xT K (pv 3) pe_int) (pa_cons (xT K (pv 3) pe_int) pa_nil))))))), ?_⟩
 try dsimp only [cxOf]
 walk_at "go"
 refine ⟨_, rfl, fun t H1 ht e => ?_⟩
 have s1 : Same H H1 := by rw [e]; exact Same.new ht
 have ht1 : SqT K H1 t [.int ((n : Int) / 7 - 3), .int ((n : Int) % 7 - 3)] := SqT.of (by rw [e]; exact upd_same)
 have hF1 := hF.mono s1
 walk_at "go"
 refine ⟨f, w, h, S, _, _, rfl, hF1, hFp.mono s1, hS, by omega, ?_⟩
 refine qint (k H1 s1) ?_
 have e1 : (n : Int) / 7 - 3 = vxOf n := by unfold vxOf; omega
 have e2 : (n : Int) % 7 - 3 = vyOf n := by unfold vyOf; omega
 rw [e1, e2]
end
section
variable {P : Program} {w : World} {K : PySem.W.Frag} {mg : Str → Option Value} {base : Heap}
theorem w_gsub {to ti : TE} {t : TSet} {v : V} {σ : L2.St} {H : Hp} {R : L2.St → Hp → Prop} (q : to σ H fun o H1 => ti σ H1 fun i H2 => t o i v H2 fun H3 => R σ H3) : gSub to ti t v σ H R := q
theorem w_setL {H : Hp} {p : Addr} {xs : List V} {k : Int} {j : Nat} {v : V} {R : Hp → Prop} (h : H p = some (.lst xs)) (e : k = (j : Int)) (hj : j < xs.length) (q : R (upd H p (.lst (xs.set j v)))) : rSetL (.ref p) (.int k) v H R :=
 ⟨p, xs, k, j, rfl, rfl, h, by unfold ixN; rw [if_pos (by omega), if_pos (by omega), e, Int.toNat_natCast], q⟩
theorem w_gtup {n : Nat} {t : TGs} {a : Addr} {xs : List V} {σ : L2.St} {H : Hp} {R : L2.St → Hp → Prop} (h : SqT K H a xs) (hl : xs.length = n) (q : t xs σ H R) : gTup K n t (.ref a) σ H R := ⟨a, xs, rfl, h, hl, q⟩
theorem w_gcons {t : TG} {u : TGs} {v : V} {r : List V} {σ : L2.St} {H : Hp} {R : L2.St → Hp → Prop} (q : t v σ H fun σ' H' => u r σ' H' R) : gCons t u (v :: r) σ H R := ⟨v, r, rfl, q⟩
theorem w_gnil {σ : L2.St} {H : Hp} {R : L2.St → Hp → Prop} (q : R σ H) : gNil [] σ H R := ⟨rfl, q⟩
theorem sqL_ne {H : Hp} {a D : Addr} {xs : List V} {o : HO} (h : SqL K H a xs) (hn : a ≠ D) : SqL K (upd H D o) a xs := by
 rcases h with (h | ⟨u, h⟩) | h
 · exact .inl (.inl (by rw [upd_ne hn]; exact h))
 · exact .inl (.inr ⟨u, by rw [upd_ne hn]; exact h⟩)
 · exact .inr h
theorem sc_there_places : FnScope ["chart", "places", "k"] ["chart"] (defScope (top 69)) := fS
def sp_there_places (T : Txt K mg) : Sp := fun vs H Q _ => ∃ (c f hd pt bx : Addr) (m : Sr40.Map_), vs = [.ref c] ∧ ChartIs T H c m f hd pt bx ∧ GoodM m ∧ ∀ p H', Same H H' → H p = none → H' p = some (.lst (setsV (thereF m))) → Q (.ref p) H'
theorem ok_there_places (T : Txt K mg) : FnOk P w K mg base CX0 2 T.routes.there_places.a T.routes.there_places.fd ["chart"] (sp_there_places T) := by
 refine T.routes.there_places.F.ok sc_there_places (fun _ _ _ _ h => by obtain ⟨c, f, hd, pt, bx, m, rfl, _⟩ := h; rfl) (fun cdv A outer s H vs Q E hr h => ?_)
 obtain ⟨c, f, hd, pt, bx, m, rfl, hC, g, k⟩ := h
 refine ⟨_, (pss_cons (ps_setLc (i := 1) rfl sc_there_places.nd rfl rfl (sw_true rfl rfl rfl rfl) (pi_range1 rfl T.n_range (pa_cons (pe_glob rfl T.motion.SPEED_COUNT.g T.motion.SPEED_COUNT.r) pa_nil)) (own := [("k", 2)]) (blkOk_by (by show blkC ["chart", "places", "k"] (defScope (top 69)) _ _ = true; decide +kernel)) (fun _ _ _ _ _ => (gN 2 sc_there_places.nd)) (fun _ _ _ _ _ => pts_nil) (fun _ _ _ _ _ => pe_int))
  (pss_cons (ps_asg (pe_meth (fldK K (pv 0) rfl) T.places.Field.C T.places.Field_place.m (ok_Field_place T) (hr.mono (by decide)) T.places.Field_place.b .nil pass0 (pa_cons (xT K (fldK K (pv 0) rfl) pe_int) (pa_cons (xT K (fldK K (pv 0) rfl) pe_int) pa_nil))) (pg_sub (pv 1) (cG T.motion.speed_number (ok_speed_number T) hr (pa_cons (xT K (fldK K (pv 0) rfl) pe_int) (pa_cons (xT K (fldK K (pv 0) rfl) pe_int) pa_nil))) set_list))
  (pss_one (ps_ret (pv 1))))), ?_⟩
 try dsimp only [cxOf]
 have hsp := dir_sp g
 walk_at "go"
 refine ⟨_, rfl, by decide, by decide, ?_⟩
 intro D hD
 refine lc_range (fun i H' => Same H H' ∧ H' D = some (.lst (List.replicate i (V.int 0)))) ⟨Same.new hD, upd_same⟩ ?_ ?_
 · rintro i H' hi ⟨s1, hy⟩
   have hi : i < 49 := hi
   walk_at "go"
   refine ⟨rfl, ?_⟩
   walk_at "go"
   refine ⟨_, hy, small100 (by rw [List.length_replicate]; omega), s1.set hD, ?_⟩
   rw [upd_same, List.replicate_succ']
 · rintro H' ⟨s1, hy⟩
   have hC1 := hC.mono s1
   have hF := hC1.field
   have hFp := hC1.fp
   have hp := hC1.port
   have hh := hC1.head
   walk_at "go"
   refine ⟨f, m.w, m.h, _, _, rfl, hFp, g.port_in, ?_⟩
   refine w_gsub ?_
   walk_at "go"
   refine ⟨_, _, rfl, ?_⟩
   have e7 : 7 * (Sr40.dx m.dir + 3) + Sr40.dy m.dir + 3 = ((numV (Sr40.dx m.dir) (Sr40.dy m.dir) : Nat) : Int) := num_cast (s := ⟨0, 0, Sr40.dx m.dir, Sr40.dy m.dir⟩) hsp
   refine w_setL hy e7 (by rw [List.length_replicate]; exact numV_lt hsp) ?_
   walk_at "go"
   refine k D _ (s1.set hD) hD ?_
   rw [upd_same]
   congr 2
   apply List.ext_getElem?
   intro i
   by_cases hi : i < 49
   · rw [setsV_get hi, List.getElem?_set]
     unfold thereF
     by_cases e : numV (Sr40.dx m.dir) (Sr40.dy m.dir) = i
     · rw [if_pos e, if_pos (by rw [List.length_replicate]; exact numV_lt hsp), if_pos e.symm, portB_eq]
     · rw [if_neg e, if_neg (fun q => e q.symm), List.getElem?_replicate, if_pos (show i < Int.toNat 49 from hi)]
       rfl
   · rw [List.getElem?_eq_none (by rw [List.length_set, List.length_replicate]; omega), List.getElem?_eq_none (by rw [setsV_len]; omega)]
def lessV (vx vy : Int) (b : Sr40.Burn) : List V := (lessT b).map fun o => V.int ((numV (vx + o.a) (vy + o.b) : Nat) : Int)
theorem sc_speeds_behind : FnScope ["speed", "burn", "come"] ["speed", "burn"] (defScope (top 71)) := fS
def sp_speeds_behind (K : PySem.W.Frag) : Sp := fun vs H Q _ => ∃ (a b : Addr) (vx vy : Int) (c : Sr40.Burn), vs = [.ref a, .ref b] ∧ SqT K H a [.int vx, .int vy] ∧ BT K H b c ∧ c ∈ BUR ∧ isSp vx vy = true ∧ isSp (vx + c.a) (vy + c.b) = true ∧ ∀ p l H', Same H H' → H p = none → H l = none → H' p = some (.tup [.int ((numV (vx + c.a) (vy + c.b) : Nat) : Int), .ref l]) → H' l = some (.lst (lessV vx vy c)) → Q (.ref p) H'
theorem ok_speeds_behind (T : Txt K mg) : FnOk P w K mg base CX0 3 T.routes.speeds_behind.a T.routes.speeds_behind.fd ["speed", "burn"] (sp_speeds_behind K) := by
 refine T.routes.speeds_behind.F.ok sc_speeds_behind (fun _ _ _ _ h => by obtain ⟨a, b, vx, vy, c, rfl, _⟩ := h; rfl) (fun cdv A outer s H vs Q E hr h => ?_)
 obtain ⟨a, b, vx, vy, c, rfl, ha, hb, hB, h0, hsp, k⟩ := h
 refine ⟨_, (pss_one (ps_ret (pe_tup (pa_cons (cG T.routes.number_behind (ok_number_behind T) hr (pa_cons (pv 0) (pa_cons (pv 1) pa_nil))) (pa_cons (pe_lc rfl sc_speeds_behind.nd (ilK K (cG T.motion.less_than (ok_less_than T) hr (pa_cons (pv 1) pa_nil))) (own := [("come", 2)]) (blkOk_by (by show blkC ["speed", "burn", "come"] (defScope (top 71)) _ _ = true; decide +kernel)) (fun _ _ _ _ _ => (gN 2 sc_speeds_behind.nd)) (fun _ _ _ _ _ => pts_nil) (fun _ _ _ _ _ => (cG T.routes.number_behind (ok_number_behind T) hr (pa_cons (pv 0) (pa_cons (pv 2) pa_nil))))) pa_nil))))), ?_⟩
 try dsimp only [cxOf]
 walk_at "go"
 refine ⟨a, b, vx, vy, c, rfl, ha, hb, hsp, ?_⟩
 walk_at "go"
 refine ⟨b, c, rfl, hb, fun p H1 xs s1 e1 _ hxs => ?_⟩
 refine ⟨_, rfl, ⟨_, SqL.of e1⟩, ?_⟩
 intro D hD
 refine lc_list (K := K) (xs := xs) (fun i H' => Same H1 H' ∧ H' D = some (.lst (((lessT c).take i).map fun o => V.int ((numV (vx + o.a) (vy + o.b) : Nat) : Int)))) ⟨Same.new hD, upd_same⟩ (fun i H' _ q => SqL.of (q.1 _ _ e1)) ?_ ?_
 · rintro i v H' hi ⟨s2, hy⟩
   obtain ⟨o, hoi, ao, rfl, hao⟩ := paired_get' hxs hi
   have hom : o ∈ lessT c := List.mem_of_getElem? hoi
   have s3 := s1.trans s2
   walk_at "go"
   refine ⟨rfl, ?_⟩
   walk_at "go"
   refine ⟨a, ao, vx, vy, o, rfl, s3.tup ha, s2.tup hao, outs_slow h0 hsp ((lessT_outs hB).mp hom).1, ?_⟩
   refine ⟨_, hy, small100 ?_, s2.set hD, ?_⟩
   · rw [List.length_map]
     have hz : (lessT c).length ≤ 9 := List.length_filter_le _ _
     exact Nat.le_trans (List.length_take_le' _ _) (by omega)
   · rw [upd_same, take_snoc hoi, List.map_append]
     rfl
 · rintro H' ⟨s2, hy⟩
   have e : (lessT c).take xs.length = lessT c := by
     rw [Paired.length hxs, List.take_length]
   rw [e] at hy
   walk_at "go"
   refine w_small (by show 2 ≤ 1000; decide) fun t ht => ?_
   have s3 := s1.trans s2
   refine k t D _ (s3.trans (Same.new ht)) (s3.free ht) (s1.free hD) upd_same ?_
   rw [upd_ne (fun e => by rw [← e, hy] at ht; cases ht)]
   exact hy
def MoveX (K : PySem.W.Frag) (S : List Addr) (H : Hp) (vx vy : Int) (v : V) (b : Sr40.Burn) : Prop := ∃ a l, v = .ref a ∧ (∀ x ∈ S, l ≠ x) ∧ SqT K H a [.int ((numV (vx + b.a) (vy + b.b) : Nat) : Int), .ref l] ∧ SqL K H l (lessV vx vy b)
theorem MoveX.mono {S : List Addr} {H H' : Hp} {vx vy : Int} {v : V} {b : Sr40.Burn} (s : Same H H') (h : MoveX K S H vx vy v b) : MoveX K S H' vx vy v b := by
 obtain ⟨a, l, e, n, h1, h2⟩ := h
 exact ⟨a, l, e, n, s.tup h1, s.seq h2⟩
theorem MoveX.less {S S' : List Addr} {H : Hp} {vx vy : Int} {v : V} {b : Sr40.Burn} (hS : ∀ x ∈ S', x ∈ S) (h : MoveX K S H vx vy v b) : MoveX K S' H vx vy v b := by
 obtain ⟨a, l, e, n, h1, h2⟩ := h
 exact ⟨a, l, e, fun x hx => n x (hS x hx), h1, h2⟩
theorem MoveX.updL {S : List Addr} {H : Hp} {vx vy : Int} {v : V} {b : Sr40.Burn} {D : Addr} {ys : List V} {o : HO} (h : MoveX K S H vx vy v b) (hD : H D = some (.lst ys)) (hm : D ∈ S) : MoveX K S (upd H D o) vx vy v b := by
 obtain ⟨a, l, e, n, h1, h2⟩ := h
 exact ⟨a, l, e, n, h1.updL hD, sqL_ne h2 (n D hm)⟩
def RowX (K : PySem.W.Frag) (S : List Addr) (H : Hp) (v : V) (k : Nat) : Prop := ∃ l ys, v = .ref l ∧ (∀ x ∈ S, l ≠ x) ∧ H l = some (.lst ys) ∧ Paired (MoveX K S H (vxOf k) (vyOf k)) ys (burnsAt (vxOf k) (vyOf k))
theorem RowX.mono {S : List Addr} {H H' : Hp} {v : V} {k : Nat} (s : Same H H') (h : RowX K S H v k) : RowX K S H' v k := by
 obtain ⟨l, ys, e, n, h1, h2⟩ := h
 exact ⟨l, ys, e, n, s _ _ h1, Paired.imp' (fun _ _ q => MoveX.mono s q) h2⟩
theorem RowX.updL {S : List Addr} {H : Hp} {v : V} {k : Nat} {D : Addr} {zs : List V} {o : HO} (h : RowX K S H v k) (hD : H D = some (.lst zs)) (hm : D ∈ S) : RowX K S (upd H D o) v k := by
 obtain ⟨l, ys, e, n, h1, h2⟩ := h
 exact ⟨l, ys, e, n, by rw [upd_ne (n D hm)]; exact h1, Paired.imp' (fun _ _ q => MoveX.updL q hD hm) h2⟩
def MovesAt (K : PySem.W.Frag) (H : Hp) (p : Addr) : Prop := ∃ xs, H p = some (.lst xs) ∧ Paired (RowX K [] H) xs (List.range 49)
theorem MovesAt.mono {H H' : Hp} {p : Addr} (s : Same H H') (h : MovesAt K H p) : MovesAt K H' p := by
 obtain ⟨xs, h1, h2⟩ := h
 exact ⟨xs, s _ _ h1, Paired.imp' (fun _ _ q => RowX.mono s q) h2⟩
theorem RowX.less {S S' : List Addr} {H : Hp} {v : V} {k : Nat} (hS : ∀ x ∈ S', x ∈ S) (h : RowX K S H v k) : RowX K S' H v k := by
 obtain ⟨l, ys, e, n, h1, h2⟩ := h
 exact ⟨l, ys, e, fun x hx => n x (hS x hx), h1, Paired.imp' (fun _ _ q => MoveX.less hS q) h2⟩
theorem w_bm {to : TE} {t : TA} {rr : V → List V → Hp → VK → Prop} {ty : String} {σ : L2.St} {H : Hp} {Q : VK} (q : to σ H fun x H1 => tyV K ty x H1 ∧ t σ H1 fun xs H2 => rr x xs H2 Q) : tBM K ty rr to t σ H Q := q
theorem w_append {H : Hp} {l : Addr} {xs : List V} {y : V} {Q : VK} (h : H l = some (.lst xs)) (hl : xs.length ≤ 1000) (q : Q .non (upd H l (.lst (xs ++ [y])))) : rAppend (.ref l) [y] H Q := ⟨l, xs, y, rfl, rfl, h, small100 hl, q⟩
theorem sc_moves_by_speed : FnScope ["moves", "k", "speed", "burn"] [] (defScope (top 70)) := fS
def sp_moves_by_speed (K : PySem.W.Frag) : Sp := fun vs H Q _ => vs = [] ∧ ∀ p H', Same H H' → H p = none → MovesAt K H' p → Q (.ref p) H'
theorem ok_moves_by_speed (T : Txt K mg) : FnOk P w K mg base CX0 4 T.routes.moves_by_speed.a T.routes.moves_by_speed.fd [] (sp_moves_by_speed K) := by
 refine T.routes.moves_by_speed.F.ok sc_moves_by_speed (fun _ _ _ _ h => by obtain ⟨rfl, _⟩ := h; rfl) (fun cdv A outer s H vs Q E hr h => ?_)
 obtain ⟨rfl, k⟩ := h
 refine ⟨_, (pss_cons (sA 0 sc_moves_by_speed.nd (pe_lst pa_nil))
  (pss_cons (ps_for PassesOwn.never rfl (pi_range1 rfl T.n_range (pa_cons (pe_glob rfl T.motion.SPEED_COUNT.g T.motion.SPEED_COUNT.r) pa_nil)) (gN 1 sc_moves_by_speed.nd) (pss_cons (sA 2 sc_moves_by_speed.nd (cG T.motion.speed_parts (ok_speed_parts T) hr (pa_cons (pv 1) pa_nil)))
  (pss_one (ps_expr (appK K (pe_bm PySem.F.plainAttrs_list PySem.F.slot_list_append PySem.F.type_list_append mt_append (pv 0) (pa_cons (pe_lc rfl sc_moves_by_speed.nd (ilK K (cG T.motion.burns_at (ok_burns_at T) hr (pa_cons (xT K (pv 2) pe_int) (pa_cons (xT K (pv 2) pe_int) pa_nil)))) (own := [("burn", 3)]) (blkOk_by (by show blkC ["moves", "k", "speed", "burn"] (defScope (top 70)) _ _ = true; decide +kernel)) (fun _ _ _ _ _ => (gN 3 sc_moves_by_speed.nd)) (fun _ _ _ _ _ => pts_nil) (fun _ _ _ _ _ => (cG T.routes.speeds_behind (ok_speeds_behind T) hr (pa_cons (pv 2) (pa_cons (pv 3) pa_nil))))) pa_nil)))))))
  (pss_one (ps_ret (pv 0))))), ?_⟩
 try dsimp only [cxOf]
 walk_at "go"
 refine w_small (by show 0 ≤ 1000; decide) fun M hM => ?_
 have sM : Same H (upd H M (.lst [])) := Same.new hM
 have eM : upd H M (.lst []) M = some (.lst []) := upd_same
 generalize upd H M (.lst []) = H0 at sM eM ⊢
 walk_at "go"
 refine ⟨_, rfl, by decide, by decide, ?_⟩
 refine for_range (fun i σ' H' => Same H H' ∧ ∃ xs v1 v2 v3, H' M = some (.lst xs) ∧ Paired (RowX K [M] H') xs (List.range i) ∧ σ' = [some (.ref M), v1, v2, v3]) ⟨sM, [], _, _, _, eM, .nil, rfl⟩ ?_ ?_
 · rintro i σ' H' hi ⟨s1, xs, v1, v2, v3, hy, hrows, rfl⟩
   have hi : i < 49 := hi
   obtain ⟨hsp, _⟩ := num_vx hi
   walk_at "go"
   refine ⟨_, rfl, fun t H1 ht e => ?_⟩
   have s2 : Same H' H1 := by rw [e]; exact Same.new ht
   have e1 : (0 + (i : Int)) / 7 - 3 = vxOf i := by unfold vxOf; omega
   have e2 : (0 + (i : Int)) % 7 - 3 = vyOf i := by unfold vyOf; omega
   have ht1 : SqT K H1 t [.int (vxOf i), .int (vyOf i)] := SqT.of (by rw [e, upd_same, e1, e2])
   walk_at "go"
   refine w_bm ?_
   walk_at "go"
   refine ⟨.inl ⟨rfl, _, SqL.of (s2 _ _ hy)⟩, ?_⟩
   walk_at "go"
   refine ⟨_, _, rfl, fun p H2 bs s3 ep _ hbs => ?_⟩
   refine ⟨_, rfl, ⟨_, SqL.of ep⟩, ?_⟩
   intro D hD
   have s23 := s2.trans s3
   have hMD : M ≠ D := fun e => by rw [← e, s23 _ _ hy] at hD; cases hD
   refine lc_list (K := K) (xs := bs) (fun j H' => Same H2 H' ∧ ∃ ys, H' D = some (.lst ys) ∧ Paired (MoveX K [M, D] H' (vxOf i) (vyOf i)) ys ((burnsAt (vxOf i) (vyOf i)).take j)) ⟨Same.new hD, [], upd_same, .nil⟩ (fun j H' _ q => SqL.of (q.1 _ _ ep)) ?_ ?_
   · rintro j v H3 hj ⟨s4, ys, hD3, hms⟩
     obtain ⟨b, hbj, ab, rfl, hab⟩ := paired_get' hbs hj
     have hbm : b ∈ burnsAt (vxOf i) (vyOf i) := List.mem_of_getElem? hbj
     obtain ⟨hbB, hbsp⟩ := List.mem_filter.mp hbm
     have hylen : ys.length ≤ 9 := by
       rw [Paired.length hms]
       exact Nat.le_trans (List.length_take_le' _ _) (List.length_filter_le _ _)
     have s34 := s3.trans s4
     walk_at "go"
     refine ⟨rfl, ?_⟩
     walk_at "go"
     refine ⟨t, ab, vxOf i, vyOf i, b, rfl, s34.tup ht1, s4.tup hab, hbB, hsp, hbsp, fun q l H4 s5 hq hl eq el => ?_⟩
     have hD4 := s5 _ _ hD3
     have hM4 := s5 _ _ (s4 _ _ (s23 _ _ hy))
     have nl : ∀ x ∈ [M, D], l ≠ x := fun x hx e => by
       rw [e] at hl
       rcases List.mem_cons.mp hx with e2 | hx2
       · rw [e2, s4 _ _ (s23 _ _ hy)] at hl
         cases hl
       · rw [List.mem_singleton.mp hx2, hD3] at hl
         cases hl
     refine ⟨ys, hD4, small100 (by omega), (s4.trans s5).set hD, _, upd_same, ?_⟩
     rw [take_snoc hbj]
     exact (Paired.imp' (fun _ _ z => MoveX.updL (MoveX.mono s5 z) hD4 (by simp)) hms).snoc (MoveX.updL ⟨q, l, rfl, nl, SqT.of eq, SqL.of el⟩ hD4 (by simp))
   · rintro H3 ⟨s4, ys, hD3, hms⟩
     rw [Paired.length hbs, List.take_length] at hms
     have hM3 := s4 _ _ (s23 _ _ hy)
     have hxlen : xs.length ≤ 49 := by
       rw [Paired.length hrows, List.length_range]
       omega
     walk_at "go"
     refine w_append hM3 (by omega) ?_
     walk_at "go"
     refine ⟨((s1.trans s23).trans s4).set hM, _, _, _, _, upd_same, ?_, rfl⟩
     rw [List.range_succ]
     refine (Paired.imp' (fun _ _ z => RowX.updL (RowX.mono (s23.trans s4) z) hM3 (by simp)) hrows).snoc (RowX.updL ⟨D, ys, rfl, ?_, hD3, Paired.imp' (fun _ _ z => MoveX.less (by simp) z) hms⟩ hM3 (by simp))
     intro x hx
     rw [List.mem_singleton.mp hx]
     exact hMD.symm
 · rintro σ' H' ⟨s1, xs, v1, v2, v3, hy, hrows, rfl⟩
   walk_at "go"
   exact k M H' s1 hM ⟨xs, hy, Paired.imp' (fun _ _ z => RowX.less (by simp) z) hrows⟩
end
section
variable {P : Program} {w : World} {K : PySem.W.Frag} {mg : Str → Option Value} {base : Heap}
theorem burnF_snoc {T M : Nat → Nat} {vx vy : Int} {l : List Sr40.Burn} {j : Nat} {b : Sr40.Burn} (h : l[j]? = some b) : (l.take (j + 1)).foldl (fun p b => p ||| goodF T M vx vy b) 0 = (l.take j).foldl (fun p b => p ||| goodF T M vx vy b) 0 ||| goodF T M vx vy b := by
 rw [take_snoc h, List.foldl_append]
 rfl
theorem goodF_snoc {M : Nat → Nat} {vx vy : Int} {l : List Sr40.Burn} {j : Nat} {c : Sr40.Burn} {g0 : Nat} (h : l[j]? = some c) : (l.take (j + 1)).foldl (fun g c => g &&& M (numV (vx + c.a) (vy + c.b))) g0 = (l.take j).foldl (fun g c => g &&& M (numV (vx + c.a) (vy + c.b))) g0 &&& M (numV (vx + c.a) (vy + c.b)) := by
 rw [take_snoc h, List.foldl_append]
 rfl
theorem sc_places_by_burns : FnScope ["moves", "on_time", "on_misfire", "places_by_speed", "burns", "places", "whole", "lesser", "good", "less"] ["moves", "on_time", "on_misfire"] (defScope (top 74)) := fS
def sp_places_by_burns (K : PySem.W.Frag) : Sp := fun vs H Q _ => ∃ (mv ot om : Addr) (F M : Nat → Nat), vs = [.ref mv, .ref ot, .ref om] ∧ MovesAt K H mv ∧ SqL K H ot (setsV F) ∧ SqL K H om (setsV M) ∧ ∀ p H', Same H H' → H p = none → H' p = some (.lst (setsV (burnF F M))) → Q (.ref p) H'
theorem ok_places_by_burns (T : Txt K mg) : FnOk P w K mg base CX0 1 T.routes.places_by_burns.a T.routes.places_by_burns.fd ["moves", "on_time", "on_misfire"] (sp_places_by_burns K) := by
 refine T.routes.places_by_burns.F.ok sc_places_by_burns (fun _ _ _ _ h => by obtain ⟨mv, ot, om, F, M, rfl, _⟩ := h; rfl) (fun cdv A outer s H vs Q E hr h => ?_)
 obtain ⟨mv, ot, om, F, M, rfl, ⟨xs, hmv, hrows⟩, hot, hom, k⟩ := h
 refine ⟨_, (pss_cons (sA 3 sc_places_by_burns.nd (pe_lst pa_nil))
  (pss_cons (ps_for PassesOwn.never rfl (ilK K (pv 0)) (gN 4 sc_places_by_burns.nd) (pss_cons (sA 5 sc_places_by_burns.nd pe_int)
  (pss_cons (ps_for PassesOwn.never rfl (ilK K (pv 4)) (gtK K (pg_tup rfl (pgs_cons (gN 6 sc_places_by_burns.nd) (pgs_cons (gN 7 sc_places_by_burns.nd) pgs_nil)))) (pss_cons (sA 8 sc_places_by_burns.nd (xL K (pv 1) (pv 6)))
  (pss_cons (ps_for PassesOwn.never rfl (ilK K (pv 7)) (gN 9 sc_places_by_burns.nd) (pss_one (sA 8 sc_places_by_burns.nd (pe_op op_and (pv 8) (xL K (pv 2) (pv 9))))))
  (pss_one (sA 5 sc_places_by_burns.nd (pe_op op_or (pv 5) (pv 8)))))))
  (pss_one (ps_expr (appK K (pe_bm PySem.F.plainAttrs_list PySem.F.slot_list_append PySem.F.type_list_append mt_append (pv 3) (pa_cons (pv 5) pa_nil))))))))
  (pss_one (ps_ret (pv 3))))), ?_⟩
 try dsimp only [cxOf]
 walk_at "go"
 refine w_small (by show 0 ≤ 1000; decide) fun P hP => ?_
 have sP : Same H (upd H P (.lst [])) := Same.new hP
 have eP : upd H P (.lst []) P = some (.lst []) := upd_same
 generalize upd H P (.lst []) = H0 at sP eP ⊢
 walk_at "go"
 refine ⟨_, rfl, ⟨_, SqL.of (sP _ _ hmv)⟩, ?_⟩
 refine for_list (K := K) (xs := xs) (fun i σ' H' => Same H H' ∧ ∃ v1 v2 v3 v4 v5 v6, H' P = some (.lst ((List.range i).map fun k => V.int ((burnF F M k : Nat) : Int))) ∧ σ' = [some (.ref mv), some (.ref ot), some (.ref om), some (.ref P), v1, v2, v3, v4, v5, v6]) ⟨sP, _, _, _, _, _, _, eP, rfl⟩ (fun i σ' H' _ q => SqL.of (q.1 _ _ hmv)) ?_ ?_
 · rintro i x σ' H' hi ⟨s1, v1, v2, v3, v4, v5, v6, hy, rfl⟩
   obtain ⟨k0, hk0, l, ys, rfl, _, hl, hms⟩ := paired_get' hrows hi
   have hki : k0 = i ∧ i < 49 := by
     obtain ⟨h1, h2⟩ := List.getElem?_eq_some_iff.mp hk0
     rw [List.getElem_range] at h2
     rw [List.length_range] at h1
     exact ⟨h2.symm, h1⟩
   obtain ⟨rfl, hi49⟩ := hki
   obtain ⟨hsp, _⟩ := num_vx hi49
   have hot1 := s1.seq hot
   have hom1 := s1.seq hom
   walk_at "go"
   refine ⟨_, rfl, ⟨_, SqL.of (s1 _ _ hl)⟩, ?_⟩
   refine for_list (K := K) (xs := ys) (fun j σ' H'' => H'' = H' ∧ ∃ v3 v4 v5 v6, σ' = [some (.ref mv), some (.ref ot), some (.ref om), some (.ref P), some (.ref l), some (.int ((((burnsAt (vxOf k0) (vyOf k0)).take j).foldl (fun p b => p ||| goodF F M (vxOf k0) (vyOf k0) b) 0 : Nat) : Int)), v3, v4, v5, v6]) ⟨rfl, _, _, _, _, rfl⟩ (fun j σ' H'' _ q => by rw [q.1]; exact SqL.of (s1 _ _ hl)) ?_ ?_
   · rintro j v σ' H'' hj ⟨rfl, v3, v4, v5, v6, rfl⟩
     obtain ⟨b, hbj, a, ll, rfl, _, hta, htl⟩ := paired_get' hms hj
     obtain ⟨hbB, hbsp⟩ := List.mem_filter.mp (List.mem_of_getElem? hbj)
     refine w_gtup (s1.tup hta) rfl ?_
     refine w_gcons ?_
     walk_at "go"
     refine w_gcons ?_
     walk_at "go"
     refine w_gnil ?_
     walk_at "go"
     refine w_ixL hot1 (setsV_at rfl (numV_lt hbsp)) ?_
     walk_at "go"
     refine ⟨_, rfl, ⟨_, s1.seq htl⟩, ?_⟩
     refine for_list (K := K) (xs := lessV (vxOf k0) (vyOf k0) b) (fun n σ' H3 => H3 = H'' ∧ ∃ v6, σ' = [some (.ref mv), some (.ref ot), some (.ref om), some (.ref P), some (.ref l), some (.int ((((burnsAt (vxOf k0) (vyOf k0)).take j).foldl (fun p b => p ||| goodF F M (vxOf k0) (vyOf k0) b) 0 : Nat) : Int)), some (.int ((numV (vxOf k0 + b.a) (vyOf k0 + b.b) : Nat) : Int)), some (.ref ll), some (.int ((((lessT b).take n).foldl (fun g c => g &&& M (numV (vxOf k0 + c.a) (vyOf k0 + c.b))) (F (numV (vxOf k0 + b.a) (vyOf k0 + b.b))) : Nat) : Int)), v6]) ⟨rfl, _, rfl⟩ (fun n σ' H3 _ q => by rw [q.1]; exact s1.seq htl) ?_ ?_
     · rintro n y σ' H3 hn ⟨rfl, v6, rfl⟩
       unfold lessV at hn
       rw [List.getElem?_map] at hn
       obtain ⟨c, hc, rfl⟩ : ∃ c, (lessT b)[n]? = some c ∧ y = V.int ((numV (vxOf k0 + c.a) (vyOf k0 + c.b) : Nat) : Int) := by
         cases e : (lessT b)[n]? with
         | none => rw [e] at hn; cases hn
         | some c => rw [e] at hn; exact ⟨c, rfl, (Option.some.inj hn).symm⟩
       have hcsp := outs_slow hsp hbsp ((lessT_outs hbB).mp (List.mem_of_getElem? hc)).1
       walk_at "go"
       refine w_ixL hom1 (setsV_at rfl (numV_lt hcsp)) ?_
       walk_at "go"
       rw [goodF_snoc hc]
       exact ⟨rfl, _, rfl⟩
     · rintro σ' H3 ⟨rfl, v6, rfl⟩
       have el : (lessT b).take (lessV (vxOf k0) (vyOf k0) b).length = lessT b := by
         unfold lessV
         rw [List.length_map, List.take_length]
       rw [el]
       walk_at "go"
       rw [burnF_snoc hbj]
       exact ⟨rfl, _, _, _, _, rfl⟩
   · rintro σ' H'' ⟨rfl, v3, v4, v5, v6, rfl⟩
     rw [Paired.length hms, List.take_length]
     walk_at "go"
     refine w_bm ?_
     walk_at "go"
     refine ⟨.inl ⟨rfl, _, SqL.of hy⟩, ?_⟩
     walk_at "go"
     refine w_append hy (by rw [List.length_map, List.length_range]; omega) ?_
     walk_at "go"
     refine ⟨s1.set hP, _, _, _, _, _, _, ?_, rfl⟩
     rw [upd_same, List.range_succ, List.map_append]
     rfl
 · rintro σ' H' ⟨s1, v1, v2, v3, v4, v5, v6, hy, rfl⟩
   rw [Paired.length hrows, List.length_range] at hy
   walk_at "go"
   exact k P H' s1 hP hy
end
section
variable {P : Program} {w : World} {K : PySem.W.Frag} {mg : Str → Option Value} {base : Heap}
def SetN (N : Addr → Prop) (H : Hp) (m : Sr40.Map_) (n : Nat) (v : V) (g : Nat) : Prop := ∃ a, v = .ref a ∧ N a ∧ H a = some (.lst (setsV (levF m n g)))
def LevN (N : Addr → Prop) (H : Hp) (m : Sr40.Map_) (n : Nat) (p : Addr) : Prop := ∃ xs, N p ∧ H p = some (.lst xs) ∧ Paired (SetN N H m n) xs (List.range 8)
theorem SetN.mono {N : Addr → Prop} {H H' : Hp} {m : Sr40.Map_} {n : Nat} {v : V} {g : Nat} (s : Same H H') (h : SetN N H m n v g) : SetN N H' m n v g := by
 obtain ⟨a, e, q, r⟩ := h
 exact ⟨a, e, q, s _ _ r⟩
theorem LevN.mono {N : Addr → Prop} {H H' : Hp} {m : Sr40.Map_} {n : Nat} {p : Addr} (s : Same H H') (h : LevN N H m n p) : LevN N H' m n p := by
 obtain ⟨xs, q, r, t⟩ := h
 exact ⟨xs, q, s _ _ r, Paired.imp' (fun _ _ z => SetN.mono s z) t⟩
theorem SetN.imp {N N' : Addr → Prop} {H : Hp} {m : Sr40.Map_} {n : Nat} {v : V} {g : Nat} (f : ∀ a, N a → N' a) (h : SetN N H m n v g) : SetN N' H m n v g := by
 obtain ⟨a, e, q, r⟩ := h
 exact ⟨a, e, f a q, r⟩
theorem LevN.imp {N N' : Addr → Prop} {H : Hp} {m : Sr40.Map_} {n : Nat} {p : Addr} (f : ∀ a, N a → N' a) (h : LevN N H m n p) : LevN N' H m n p := by
 obtain ⟨xs, q, r, t⟩ := h
 exact ⟨xs, f p q, r, Paired.imp' (fun _ _ z => SetN.imp f z) t⟩
theorem SetN.upd_ {N : Addr → Prop} {H : Hp} {m : Sr40.Map_} {n : Nat} {v : V} {g : Nat} {D : Addr} {o : HO} (f : ∀ a, N a → a ≠ D) (h : SetN N H m n v g) : SetN N (upd H D o) m n v g := by
 obtain ⟨a, e, q, r⟩ := h
 exact ⟨a, e, q, by rw [upd_ne (f a q)]; exact r⟩
theorem LevN.upd_ {N : Addr → Prop} {H : Hp} {m : Sr40.Map_} {n : Nat} {p : Addr} {D : Addr} {o : HO} (f : ∀ a, N a → a ≠ D) (h : LevN N H m n p) : LevN N (upd H D o) m n p := by
 obtain ⟨xs, q, r, t⟩ := h
 exact ⟨xs, q, by rw [upd_ne (f p q)]; exact r, Paired.imp' (fun _ _ z => SetN.upd_ f z) t⟩
theorem range_get {i n k : Nat} (h : (List.range n)[i]? = some k) : k = i ∧ i < n := by
 obtain ⟨h1, h2⟩ := List.getElem?_eq_some_iff.mp h
 rw [List.getElem_range] at h2
 rw [List.length_range] at h1
 exact ⟨h2.symm, h1⟩
theorem sc_next_sure_level : FnScope ["field", "harmless", "there", "moves", "level", "following", "on_misfire", "sure", "on_time", "burning", "k"] ["field", "harmless", "there", "moves", "level"] (defScope (top 66)) := fS
def sp_next_sure_level (T : Txt K mg) : Sp := fun vs H Q _ => ∃ (f hl th mv lv : Addr) (m : Sr40.Map_) (n : Nat), vs = [.ref f, .ref hl, .ref th, .ref mv, .ref lv] ∧ GoodM m ∧ FieldAt T H f m.w m.h ∧ FieldP T H f m.w m.h ∧ H hl = some (.lst (setsV (harmF m))) ∧ H th = some (.lst (setsV (thereF m))) ∧ MovesAt K H mv ∧ LevN (fun _ => True) H m n lv ∧ ∀ p H', Same H H' → LevN (fun a => H a = none) H' m (n + 1) p → Q (.ref p) H'
theorem ok_next_sure_level (T : Txt K mg) : FnOk P w K mg base CX0 3 T.routes.next_sure_level.a T.routes.next_sure_level.fd ["field", "harmless", "there", "moves", "level"] (sp_next_sure_level T) := by
 refine T.routes.next_sure_level.F.ok sc_next_sure_level (fun _ _ _ _ h => by obtain ⟨f, hl, th, mv, lv, m, n, rfl, _⟩ := h; rfl) (fun cdv A outer s H vs Q E hr h => ?_)
 obtain ⟨f, hl, th, mv, lv, m, n, rfl, g, hF, hFp, hhl, hth, hmv, ⟨xs, _, hlv, hsets⟩, k⟩ := h
 refine ⟨_, (pss_cons (sA 5 sc_next_sure_level.nd (pe_lst pa_nil))
  (pss_cons (sA 6 sc_next_sure_level.nd (pv 1))
  (pss_cons (ps_for PassesOwn.never rfl (ilK K (pv 4)) (gN 7 sc_next_sure_level.nd) (pss_cons (ps_setLc (i := 8) rfl sc_next_sure_level.nd rfl rfl (sw_true rfl rfl rfl rfl) (pi_range1 rfl T.n_range (pa_cons (pe_glob rfl T.motion.SPEED_COUNT.g T.motion.SPEED_COUNT.r) pa_nil)) (own := [("k", 10)]) (blkOk_by (by show blkC ["field", "harmless", "there", "moves", "level", "following", "on_misfire", "sure", "on_time", "burning", "k"] (defScope (top 66)) _ _ = true; decide +kernel)) (fun _ _ _ _ _ => (gN 10 sc_next_sure_level.nd)) (fun _ _ _ _ _ => pts_nil) (fun _ _ _ _ _ => (pe_op op_and (xL K (pv 1) (pv 10)) (cG T.routes.before_drift (ok_before_drift T) hr (pa_cons (pv 0) (pa_cons (xL K (pv 7) (pv 10)) (pa_cons (pv 10) pa_nil)))))))
  (pss_cons (sA 9 sc_next_sure_level.nd (cG T.routes.places_by_burns (ok_places_by_burns T) hr (pa_cons (pv 3) (pa_cons (pv 8) (pa_cons (pv 6) pa_nil)))))
  (pss_cons (ps_expr (appK K (pe_bm PySem.F.plainAttrs_list PySem.F.slot_list_append PySem.F.type_list_append mt_append (pv 5) (pa_cons (pe_lc rfl sc_next_sure_level.nd (pi_range1 rfl T.n_range (pa_cons (pe_glob rfl T.motion.SPEED_COUNT.g T.motion.SPEED_COUNT.r) pa_nil)) (own := [("k", 10)]) (blkOk_by (by show blkC ["field", "harmless", "there", "moves", "level", "following", "on_misfire", "sure", "on_time", "burning", "k"] (defScope (top 66)) _ _ = true; decide +kernel)) (fun _ _ _ _ _ => (gN 10 sc_next_sure_level.nd)) (fun _ _ _ _ _ => pts_nil) (fun _ _ _ _ _ => (pe_op op_or (xL K (pv 2) (pv 10)) (xL K (pv 9) (pv 10))))) pa_nil))))
  (pss_one (sA 6 sc_next_sure_level.nd (pv 8)))))))
  (pss_one (ps_ret (pv 5)))))), ?_⟩
 try dsimp only [cxOf]
 walk_at "go"
 refine w_small (by show 0 ≤ 1000; decide) fun D hD => ?_
 have sD : Same H (upd H D (.lst [])) := Same.new hD
 have eD : upd H D (.lst []) D = some (.lst []) := upd_same
 generalize upd H D (.lst []) = H0 at sD eD ⊢
 walk_at "go"
 refine ⟨_, rfl, ⟨_, SqL.of (sD _ _ hlv)⟩, ?_⟩
 refine for_list (K := K) (xs := xs) (fun i σ' H' => Same H H' ∧ ∃ om ys v7 v8 v9 v10, H' D = some (.lst ys) ∧ Paired (SetN (fun a => H a = none ∧ a ≠ D) H' m (n + 1)) ys (List.range i) ∧ om ≠ D ∧ H' om = some (.lst (setsV (if i = 0 then harmF m else onF m (levF m n (i - 1))))) ∧ σ' = [some (.ref f), some (.ref hl), some (.ref th), some (.ref mv), some (.ref lv), some (.ref D), some (.ref om), v7, v8, v9, v10]) ⟨sD, hl, [], _, _, _, _, eD, .nil, ne_of_none hhl hD, sD _ _ hhl, rfl⟩ (fun i σ' H' _ q => SqL.of (q.1 _ _ hlv)) ?_ ?_
 · rintro i x σ' H' hi ⟨s1, om, ys, v7, v8, v9, v10, hy, hys, hon, hom, rfl⟩
   obtain ⟨g0, hg0, a, rfl, _, ha⟩ := paired_get' hsets hi
   obtain ⟨rfl, hi8⟩ := range_get hg0
   have hylen : ys.length ≤ 8 := by
     rw [Paired.length hys, List.length_range]
     omega
   walk_at "go"
   refine ⟨_, rfl, by decide, by decide, ?_⟩
   intro E1 hE1
   refine lc_range (fun k H'' => Same H' H'' ∧ H'' E1 = some (.lst ((List.range k).map fun k => V.int ((onF m (levF m n g0) k : Nat) : Int)))) ⟨Same.new hE1, upd_same⟩ ?_ ?_
   · rintro j H2 hj ⟨s2, hy2⟩
     have hj : j < 49 := hj
     have s12 := s1.trans s2
     rw [Int.zero_add]
     walk_at "go"
     refine ⟨rfl, ?_⟩
     walk_at "go"
     refine w_ixL (SqL.of (s12 _ _ hhl)) (setsV_at rfl hj) ?_
     walk_at "go"
     refine w_ixL (SqL.of (s12 _ _ ha)) (setsV_at rfl hj) ?_
     walk_at "go"
     refine ⟨f, m.w, m.h, levF m n g0 j, j, rfl, hF.mono s12, hFp.mono s12, levF_in g n g0 j, hj, fun H3 s3 => ?_⟩
     walk_at "go"
     refine ⟨_, s3 _ _ hy2, small100 (by rw [List.length_map, List.length_range]; omega), (s2.trans s3).set hE1, ?_⟩
     rw [upd_same, List.range_succ, List.map_append]
     rfl
   · rintro H2 ⟨s2, hy2⟩
     have hy2 : H2 E1 = some (.lst (setsV (onF m (levF m n g0)))) := hy2
     have s12 := s1.trans s2
     have hE1D : E1 ≠ D := fun e => by rw [e, hy] at hE1; cases hE1
     walk_at "go"
     refine ⟨mv, E1, om, onF m (levF m n g0), _, rfl, hmv.mono s12, SqL.of hy2, SqL.of (s2 _ _ hom), fun bu H3 s3 hbu ebu => ?_⟩
     have s13 := s12.trans s3
     have hy3 := s3 _ _ (s2 _ _ hy)
     walk_at "go"
     refine w_bm ?_
     walk_at "go"
     refine ⟨.inl ⟨rfl, _, SqL.of hy3⟩, ?_⟩
     walk_at "go"
     refine ⟨_, rfl, by decide, by decide, ?_⟩
     intro E2 hE2
     refine lc_range (fun k H'' => Same H3 H'' ∧ H'' E2 = some (.lst ((List.range k).map fun k => V.int ((levF m (n + 1) g0 k : Nat) : Int)))) ⟨Same.new hE2, upd_same⟩ ?_ ?_
     · rintro j H4 hj ⟨s4, hy4⟩
       have hj : j < 49 := hj
       have s14 := s13.trans s4
       rw [Int.zero_add]
       walk_at "go"
       refine ⟨rfl, ?_⟩
       walk_at "go"
       refine w_ixL (SqL.of (s14 _ _ hth)) (setsV_at rfl hj) ?_
       walk_at "go"
       refine w_ixL (SqL.of (s4 _ _ ebu)) (setsV_at rfl hj) ?_
       walk_at "go"
       refine ⟨_, hy4, small100 (by rw [List.length_map, List.length_range]; omega), s4.set hE2, ?_⟩
       rw [upd_same, List.range_succ, List.map_append]
       rfl
     · rintro H4 ⟨s4, hy4⟩
       have hy4 : H4 E2 = some (.lst (setsV (levF m (n + 1) g0))) := hy4
       have s34 := (s2.trans s3).trans s4
       have hD4 := s34 _ _ hy
       have hE2D : E2 ≠ D := fun e => by rw [e, hy3] at hE2; cases hE2
       walk_at "go"
       refine w_append hD4 (by omega) ?_
       walk_at "go"
       refine ⟨(s1.trans s34).set hD, E1, _, _, _, _, _, upd_same, ?_, hE1D, ?_, rfl⟩
       · rw [List.range_succ]
         exact (Paired.imp' (fun _ _ z => SetN.upd_ (fun a q => q.2) (SetN.mono s34 z)) hys).snoc (SetN.upd_ (fun a q => q.2) ⟨E2, rfl, ⟨s13.free hE2, hE2D⟩, hy4⟩)
       · rw [upd_ne hE1D, if_neg (by omega), Nat.add_sub_cancel]
         exact s4 _ _ (s3 _ _ hy2)
 · rintro σ' H' ⟨s1, om, ys, v7, v8, v9, v10, hy, hys, hon, hom, rfl⟩
   rw [Paired.length hsets, List.length_range] at hys
   walk_at "go"
   exact k D H' s1 ⟨ys, hD, hy, Paired.imp' (fun _ _ z => SetN.imp (fun a q => q.1) z) hys⟩
end
section
variable {P : Program} {w : World} {K : PySem.W.Frag} {mg : Str → Option Value} {base : Heap}
def dSets (f : Nat → Nat) : PyData := .list ((List.range 49).map fun k => .int ((f k : Nat) : Int))
def dLev (m : Sr40.Map_) (n : Nat) : PyData := .list ((List.range 8).map fun g => dSets (levF m n g))
theorem dpAll_of {α : Type} {F : V → α → Prop} {d : α → PyData} {H : Hp} (h : ∀ v a, F v a → Dp K H v (d a)) : ∀ {xs : List V} {as : List α}, Paired F xs as → DpAll K H xs (as.map d)
 | _, _, .nil => .nil
 | _, _, .cons q r => .cons (h _ _ q) (dpAll_of h r)
theorem dpAll_ints {H : Hp} : ∀ (l : List Nat) (f : Nat → Int), DpAll K H (l.map fun k => V.int (f k)) (l.map fun k => PyData.int (f k))
 | [], _ => .nil
 | k :: r, f => .cons (.int _) (dpAll_ints r f)
theorem dp_sets {H : Hp} {a : Addr} {f : Nat → Nat} (h : H a = some (.lst (setsV f))) : Dp K H (.ref a) (dSets f) := .lst (SqL.of h) (dpAll_ints _ _)
theorem dp_lev {N : Addr → Prop} {H : Hp} {m : Sr40.Map_} {n : Nat} {p : Addr} (h : LevN N H m n p) : Dp K H (.ref p) (dLev m n) := by
 obtain ⟨xs, _, h1, h2⟩ := h
 refine .lst (SqL.of h1) (dpAll_of (fun v g q => ?_) h2)
 obtain ⟨a, rfl, _, q⟩ := q
 exact dp_sets q
theorem eqvAll_map {α : Type} (f g : α → PyData) : ∀ l : List α, PyData.eqvAll (l.map f) (l.map g) = l.all fun x => PyData.eqv (f x) (g x)
 | [] => rfl
 | x :: r => by
   show (PyData.eqv (f x) (g x) && PyData.eqvAll (r.map f) (r.map g)) = _
   rw [eqvAll_map f g r]
   rfl
theorem eqv_sets (f h : Nat → Nat) : PyData.eqv (dSets f) (dSets h) = true ↔ ∀ k, k < 49 → f k = h k := by
 show PyData.eqvAll _ _ = true ↔ _
 rw [eqvAll_map, List.all_eq_true]
 constructor
 · intro q k hk
   have := q k (List.mem_range.mpr hk)
   have e : ((f k : Nat) : Int) = ((h k : Nat) : Int) := eq_of_beq this
   exact_mod_cast e
 · intro q k hk
   show (((f k : Nat) : Int) == ((h k : Nat) : Int)) = true
   rw [q k (List.mem_range.mp hk)]
   exact beq_self_eq_true _
theorem eqv_lev (m : Sr40.Map_) (n n' : Nat) : PyData.eqv (dLev m n) (dLev m n') = true ↔ ∀ c k, c < 8 → k < 49 → levF m n c k = levF m n' c k := by
 show PyData.eqvAll _ _ = true ↔ _
 rw [eqvAll_map, List.all_eq_true]
 constructor
 · intro q c k hc hk
   exact (eqv_sets _ _).mp (q c (List.mem_range.mpr hc)) k hk
 · intro q c hc
   exact (eqv_sets _ _).mpr fun k hk => q c k (List.mem_range.mp hc) hk
theorem lay_map {α : Type} {f : α → PyData} (h : ∀ x, PyData.canLay0 (f x) = true) : ∀ l : List α, PyData.canLayAll0 (l.map f) = true
 | [] => rfl
 | x :: r => by
   show (PyData.canLay0 (f x) && PyData.canLayAll0 (r.map f)) = true
   rw [h x, lay_map h r]
   rfl
theorem depth_map {α : Type} {f : α → PyData} {n : Nat} (h : ∀ x, PyData.depth (f x) ≤ n) : ∀ l : List α, PyData.depthAll (l.map f) ≤ n
 | [] => Nat.zero_le _
 | x :: r => by
   show max (PyData.depth (f x)) (PyData.depthAll (r.map f)) ≤ n
   exact Nat.max_le.mpr ⟨h x, depth_map h r⟩
theorem sets_lay (f : Nat → Nat) : PyData.canLay0 (dSets f) = true ∧ PyData.depth (dSets f) ≤ 1 :=
 ⟨lay_map (fun _ => rfl) _, by show PyData.depthAll _ + 1 ≤ 1; exact Nat.succ_le_succ (depth_map (fun _ => Nat.le_refl 0) _)⟩
theorem sets_shaped (f : Nat → Nat) : SeqAt.shaped (dSets f) = true := by
 unfold SeqAt.shaped
 rw [(sets_lay f).1, decide_eq_true (Nat.le_trans (sets_lay f).2 (by decide))]
 rfl
theorem lev_shaped (m : Sr40.Map_) (n : Nat) : SeqAt.shaped (dLev m n) = true := by
 unfold SeqAt.shaped
 have h1 : PyData.canLay0 (dLev m n) = true := lay_map (fun g => (sets_lay (levF m n g)).1) _
 have h2 : PyData.depth (dLev m n) ≤ 2 := by
   show PyData.depthAll _ + 1 ≤ 2
   exact Nat.succ_le_succ (depth_map (fun g => (sets_lay (levF m n g)).2) _)
 rw [h1, decide_eq_true (Nat.le_trans h2 (by decide))]
 rfl
def LevV (N : Addr → Prop) (H : Hp) (m : Sr40.Map_) (v : V) (j : Nat) : Prop := ∃ l, v = .ref l ∧ LevN N H m j l
def LevelsAt (N : Addr → Prop) (H : Hp) (m : Sr40.Map_) (p : Addr) (n : Nat) : Prop := ∃ xs, H p = some (.lst xs) ∧ Paired (LevV N H m) xs (List.range (n + 1))
theorem paired_last {α β : Type} {F : α → β → Prop} : ∀ {l₁ : List α} {l₂ : List β} {b : β}, Paired F l₁ (l₂ ++ [b]) → ∃ i a, l₁ = i ++ [a] ∧ Paired F i l₂ ∧ F a b
 | _, [], b, h => by
   cases h with
   | cons q r =>
     cases r
     exact ⟨[], _, rfl, .nil, q⟩
 | _, c :: l₂, b, h => by
   cases h with
   | cons q r =>
     obtain ⟨i, a, e, h1, h2⟩ := paired_last r
     exact ⟨_ :: i, a, by rw [e]; rfl, .cons q h1, h2⟩
theorem DriftsIs.harm' {T : Txt K mg} {H : Hp} {d : Addr} {m : Sr40.Map_} {f hl : Addr} (D : DriftsIs T H d m f hl) : H hl = some (.lst (setsV (harmF m))) := D.harm
theorem w_eqD {H : Hp} {Q : VK} {x y : V} {d e : PyData} (h1 : Dp K H x d) (h2 : Dp K H y e) (s1 : SeqAt.shaped d = true) (s2 : SeqAt.shaped e = true) (q : Q (.bl (PyData.eqv d e)) H) : rEqD K x y H Q := ⟨d, e, h1, h2, s1, s2, q⟩
theorem sc_sure_levels : FnScope ["chart", "drifts", "there", "moves", "levels", "level", "misfires"] ["chart", "drifts"] (defScope (top 65)) := fS
def sp_sure_levels (T : Txt K mg) : Sp := fun vs H Q _ => ∃ (c d f hd pt bx f' hl : Addr) (m : Sr40.Map_), vs = [.ref c, .ref d] ∧ ChartIs T H c m f hd pt bx ∧ DriftsIs T H d m f' hl ∧ GoodM m ∧ ∀ p H' n, Same H H' → H p = none → StopsAt m n → LevelsAt (fun _ => True) H' m p n → Q (.ref p) H'
theorem ok_sure_levels (T : Txt K mg) : FnOk P w K mg base CX0 5 T.routes.sure_levels.a T.routes.sure_levels.fd ["chart", "drifts"] (sp_sure_levels T) := by
 refine T.routes.sure_levels.F.ok sc_sure_levels (fun _ _ _ _ h => by obtain ⟨c, d, f, hd, pt, bx, f', hl, m, rfl, _⟩ := h; rfl) (fun cdv A outer s H vs Q E hr h => ?_)
 obtain ⟨c, d, f, hd, pt, bx, f', hl, m, rfl, hC, hDr, g, k⟩ := h
 refine ⟨_, (pss_cons (sA 2 sc_sure_levels.nd (cG T.routes.there_places (ok_there_places T) hr (pa_cons (pv 0) pa_nil)))
  (pss_cons (sA 3 sc_sure_levels.nd (pe_call0 (ok_moves_by_speed T) (hr.mono (by decide)) rfl T.routes.moves_by_speed.m T.routes.moves_by_speed.F.kp T.routes.moves_by_speed.b .nil pass0))
  (pss_cons (sA 4 sc_sure_levels.nd (pe_lst (pa_cons (pe_lc rfl sc_sure_levels.nd (pi_range1 rfl T.n_range (pa_cons (pe_op op_add (pe_glob rfl T.routes.MOST_MISFIRES.g T.routes.MOST_MISFIRES.r) pe_int) pa_nil)) (own := [("misfires", 6)]) (blkOk_by (by show blkC ["chart", "drifts", "there", "moves", "levels", "level", "misfires"] (defScope (top 65)) _ _ = true; decide +kernel)) (fun _ _ _ _ _ => (gN 6 sc_sure_levels.nd)) (fun _ _ _ _ _ => pts_nil) (fun _ _ _ _ _ => (pv 2))) pa_nil)))
  (pss_cons (ps_while PassesOwn.never (pt_cmpR op_le (pe_callB (lenK K) rfl T.n_len boot_len (pa_cons (pv 4) pa_nil)) (pe_glob rfl T.routes.MOST_TICKS.g T.routes.MOST_TICKS.r) (nomark _)) (pss_cons (sA 5 sc_sure_levels.nd (cG T.routes.next_sure_level (ok_next_sure_level T) hr (pa_cons (fldK K (pv 0) rfl) (pa_cons (fldK K (pv 1) rfl) (pa_cons (pv 2) (pa_cons (pv 3) (pa_cons (xL K (pv 4) (pe_un un_neg pe_int)) pa_nil)))))))
  (pss_cons (ps_if (pt_cmpR (eqK K hr.units) (pv 5) (xL K (pv 4) (pe_un un_neg pe_int)) (nomark _)) (pss_one ps_break) pss_nil)
  (pss_one (ps_expr (appK K (pe_bm PySem.F.plainAttrs_list PySem.F.slot_list_append PySem.F.type_list_append mt_append (pv 4) (pa_cons (pv 5) pa_nil))))))))
  (pss_one (ps_ret (pv 4))))))), ?_⟩
 try dsimp only [cxOf]
 walk_at "go"
 refine ⟨c, f, hd, pt, bx, m, rfl, hC, g, fun th H1 s1 hth0 hth => ?_⟩
 walk_at "go"
 refine ⟨rfl, fun mv H2 s2 hmv0 hmv => ?_⟩
 walk_at "go"
 refine ⟨_, rfl, by decide, by decide, ?_⟩
 intro Z hZ
 have s12 := s1.trans s2
 refine lc_range (fun i H' => Same H2 H' ∧ H' Z = some (.lst (List.replicate i (V.ref th)))) ⟨Same.new hZ, upd_same⟩ ?_ ?_
 · rintro i H' hi ⟨s3, hy⟩
   have hi : i < 8 := hi
   walk_at "go"
   refine ⟨rfl, ?_⟩
   walk_at "go"
   refine ⟨_, hy, small100 (by rw [List.length_replicate]; omega), s3.set hZ, ?_⟩
   rw [upd_same, List.replicate_succ']
 · rintro H3 ⟨s3, hy⟩
   walk_at "go"
   refine w_small (by show 1 ≤ 1000; decide) fun Lv hLv => ?_
   have s4 : Same H3 (upd H3 Lv (.lst [.ref Z])) := Same.new hLv
   have eL : upd H3 Lv (.lst [.ref Z]) Lv = some (.lst [.ref Z]) := upd_same
   have hth3 := s3 _ _ (s2 _ _ hth)
   have sA := (s12.trans s3).trans s4
   have hl0 : LevN (fun a => a ≠ Lv) (upd H3 Lv (.lst [.ref Z])) m 0 Z := by
     refine ⟨_, ne_of_none hy hLv, s4 _ _ hy, ?_⟩
     have pr : ∀ i : Nat, Paired (SetN (fun a => a ≠ Lv) (upd H3 Lv (.lst [.ref Z])) m 0) (List.replicate i (V.ref th)) (List.range i) := by
       intro i
       induction i with
       | zero => exact .nil
       | succ i ih =>
         rw [List.replicate_succ', List.range_succ]
         exact ih.snoc ⟨th, rfl, ne_of_none hth3 hLv, s4 _ _ hth3⟩
     exact pr 8
   have hmv3 := hmv.mono s3
   have s123 := s12.trans s3
   generalize upd H3 Lv (.lst [.ref Z]) = H4 at s4 eL sA hl0 ⊢
   have fr : H Lv = none := (s12.trans s3).free hLv
   walk_at "go"
   refine w_while (fun n0 σ' H' => ∃ n v5 v6, n0 = 250 - n ∧ n ≤ 250 ∧ Same H3 H' ∧ LevelsAt (fun a => a ≠ Lv) H' m Lv n ∧ σ' = [some (.ref c), some (.ref d), some (.ref th), some (.ref mv), some (.ref Lv), v5, v6]) (m0 := 250) ⟨0, _, _, rfl, by decide, s4, ⟨_, eL, .cons ⟨Z, rfl, hl0⟩ .nil⟩, rfl⟩ ?_
   rintro n0 σ' H' ⟨n, v5, v6, rfl, hn, s3H, ⟨xs, hxs, hps⟩, rfl⟩
   have sH := s123.trans s3H
   have htH := s3H _ _ hth3
   have hmH := hmv3.mono s3H
   have hlen : xs.length = n + 1 := by rw [Paired.length hps, List.length_range]
   have hxsq := SqL.of (K := K) hxs
   walk_at "go"
   rw [hlen]
   refine ite2 (fun hc => ?_) (fun hc => ?_)
   · have hc : ((n + 1 : Nat) : Int) ≤ 250 := of_decide_eq_true hc
     have hCH := hC.mono sH
     have hDH := hDr.mono sH
     rw [List.range_succ] at hps
     obtain ⟨ini, last, exs, hini, l, rfl, hlast⟩ := paired_last hps
     have hat : atI xs (-1) = some (V.ref l) := by rw [exs]; exact atI_last _ _
     refine ⟨fun σ' H'' => ∃ v5 v6, Same H3 H'' ∧ LevelsAt (fun a => a ≠ Lv) H'' m Lv (n + 1) ∧ σ' = [some (.ref c), some (.ref d), some (.ref th), some (.ref mv), some (.ref Lv), v5, v6], ?_, ?_⟩
     · rintro σ' H'' ⟨v5, v6, q1, q3, rfl⟩
       exact ⟨250 - (n + 1), by omega, n + 1, v5, v6, rfl, by omega, q1, q3, rfl⟩
     walk_at "go"
     refine r_harmless hDH ?_
     walk_at "go"
     refine w_ixL hxsq hat ?_
     walk_at "go"
     refine ⟨f, hl, th, mv, l, m, n, rfl, g, hCH.field, hCH.fp, hDH.harm', htH, hmH, hlast.imp fun _ _ => trivial, fun p H5 s5 hp => ?_⟩
     have hxs5 := SqL.of (K := K) (s5 _ _ hxs)
     walk_at "go"
     refine w_ixL hxs5 hat ?_
     refine w_eqD (dp_lev hp) (dp_lev (hlast.mono s5)) (lev_shaped _ _) (lev_shaped _ _) ?_
     walk_at "go"
     refine ite2 (fun he => ?_) (fun he => ?_)
     · have he := (eqv_lev m (n + 1) n).mp he
       walk_at "go"
       refine k Lv H5 n (sH.trans s5) fr (.inr ⟨by omega, he⟩) ⟨xs, s5 _ _ hxs, ?_⟩
       rw [List.range_succ]
       exact Paired.imp' (fun _ _ ⟨l, e, q⟩ => ⟨l, e, (q.mono s5).imp fun _ _ => trivial⟩) hps
     · walk_at "go"
       refine w_bm ?_
       walk_at "go"
       refine ⟨.inl ⟨rfl, _, hxs5⟩, ?_⟩
       walk_at "go"
       refine w_append (s5 _ _ hxs) (by omega) ?_
       walk_at "go"
       have nL : ∀ a, H' a = none → a ≠ Lv := fun a q e => by rw [e, hxs] at q; cases q
       refine ⟨_, _, (s3H.trans s5).set hLv, ⟨_, upd_same, ?_⟩, rfl⟩
       rw [List.range_succ (n := n + 1), List.range_succ]
       exact (Paired.imp' (fun _ _ ⟨l, e, q⟩ => ⟨l, e, LevN.upd_ (fun _ z => z) (q.mono s5)⟩) hps).snoc ⟨p, rfl, LevN.upd_ (fun _ z => z) (hp.imp nL)⟩
   · have hc : ¬ ((n + 1 : Nat) : Int) ≤ 250 := fun e => hc (decide_eq_true e)
     walk_at "go"
     refine k Lv H' n sH fr (.inl (by omega)) ⟨xs, hxs, Paired.imp' (fun _ _ ⟨l, e, q⟩ => ⟨l, e, q.imp fun _ _ => trivial⟩) hps⟩
end
section
variable {P : Program} {w : World} {K : PySem.W.Frag} {mg : Str → Option Value} {base : Heap}
theorem sc_next_away_level : FnScope ["field", "harmless", "there", "moves", "away", "staying", "on_time", "burning", "places", "k"] ["field", "harmless", "there", "moves", "away"] (defScope (top 68)) := fS
def sp_next_away_level (T : Txt K mg) : Sp := fun vs H Q _ => ∃ (f hl th mv aw : Addr) (m : Sr40.Map_) (n : Nat), vs = [.ref f, .ref hl, .ref th, .ref mv, .ref aw] ∧ GoodM m ∧ FieldAt T H f m.w m.h ∧ FieldP T H f m.w m.h ∧ H hl = some (.lst (setsV (harmF m))) ∧ H th = some (.lst (setsV (thereF m))) ∧ MovesAt K H mv ∧ H aw = some (.lst (setsV (awF m n))) ∧ ∀ p H', Same H H' → H p = none → H' p = some (.lst (setsV (awF m (n + 1)))) → Q (.ref p) H'
theorem ok_next_away_level (T : Txt K mg) : FnOk P w K mg base CX0 3 T.routes.next_away_level.a T.routes.next_away_level.fd ["field", "harmless", "there", "moves", "away"] (sp_next_away_level T) := by
 refine T.routes.next_away_level.F.ok sc_next_away_level (fun _ _ _ _ h => by obtain ⟨f, hl, th, mv, aw, m, n, rfl, _⟩ := h; rfl) (fun cdv A outer s H vs Q E hr h => ?_)
 obtain ⟨f, hl, th, mv, aw, m, n, rfl, g, hF, hFp, hhl, hth, hmv, haw, k⟩ := h
 refine ⟨_, (pss_cons (sA 5 sc_next_away_level.nd (pe_lc rfl sc_next_away_level.nd (ilK K (pv 4)) (own := [("places", 8)]) (blkOk_by (by show blkC ["field", "harmless", "there", "moves", "away", "staying", "on_time", "burning", "places", "k"] (defScope (top 68)) _ _ = true; decide +kernel)) (fun _ _ _ _ _ => (gN 8 sc_next_away_level.nd)) (fun _ _ _ _ _ => pts_nil) (fun _ _ _ _ _ => (pe_op op_and (fldK K (pv 0) rfl) (pe_un un_inv (pv 8))))))
  (pss_cons (ps_setLc (i := 6) rfl sc_next_away_level.nd rfl rfl (sw_true rfl rfl rfl rfl) (pi_range1 rfl T.n_range (pa_cons (pe_glob rfl T.motion.SPEED_COUNT.g T.motion.SPEED_COUNT.r) pa_nil)) (own := [("k", 9)]) (blkOk_by (by show blkC ["field", "harmless", "there", "moves", "away", "staying", "on_time", "burning", "places", "k"] (defScope (top 68)) _ _ = true; decide +kernel)) (fun _ _ _ _ _ => (gN 9 sc_next_away_level.nd)) (fun _ _ _ _ _ => pts_nil) (fun _ _ _ _ _ => (pe_op op_and (xL K (pv 1) (pv 9)) (pe_un un_inv (cG T.routes.before_drift (ok_before_drift T) hr (pa_cons (pv 0) (pa_cons (xL K (pv 5) (pv 9)) (pa_cons (pv 9) pa_nil))))))))
  (pss_cons (sA 7 sc_next_away_level.nd (cG T.routes.places_by_burns (ok_places_by_burns T) hr (pa_cons (pv 3) (pa_cons (pv 6) (pa_cons (pv 1) pa_nil)))))
  (pss_one (ps_ret (pe_lc rfl sc_next_away_level.nd (pi_range1 rfl T.n_range (pa_cons (pe_glob rfl T.motion.SPEED_COUNT.g T.motion.SPEED_COUNT.r) pa_nil)) (own := [("k", 9)]) (blkOk_by (by show blkC ["field", "harmless", "there", "moves", "away", "staying", "on_time", "burning", "places", "k"] (defScope (top 68)) _ _ = true; decide +kernel)) (fun _ _ _ _ _ => (gN 9 sc_next_away_level.nd)) (fun _ _ _ _ _ => pts_nil) (fun _ _ _ _ _ => (pe_op op_and (xL K (pv 7) (pv 9)) (pe_un un_inv (xL K (pv 2) (pv 9))))))))))), ?_⟩
 try dsimp only [cxOf]
 walk_at "go"
 refine ⟨_, rfl, ⟨_, SqL.of haw⟩, ?_⟩
 intro S hS
 refine lc_list (K := K) (xs := setsV (awF m n)) (fun i H' => Same H H' ∧ H' S = some (.lst ((List.range i).map fun k => V.int ((dif (every m.w m.h) (awF m n k) : Nat) : Int)))) ⟨Same.new hS, upd_same⟩ (fun i H' _ q => SqL.of (q.1 _ _ haw)) ?_ ?_
 · rintro i x H' hi ⟨s1, hy⟩
   have hi49 : i < 49 := by
     have := (List.getElem?_eq_some_iff.mp hi).1
     rw [setsV_len] at this
     exact this
   rw [setsV_get hi49] at hi
   cases hi
   have hF1 := hF.mono s1
   walk_at "go"
   refine ⟨rfl, ?_⟩
   walk_at "go"
   refine ⟨_, hy, small100 (by rw [List.length_map, List.length_range]; omega), s1.set hS, ?_⟩
   rw [upd_same, List.range_succ, List.map_append]
   rfl
 · rintro H1 ⟨s1, hy⟩
   rw [setsV_len] at hy
   have hy : H1 S = some (.lst (setsV fun k => dif (every m.w m.h) (awF m n k))) := hy
   walk_at "go"
   refine ⟨_, rfl, by decide, by decide, ?_⟩
   intro E1 hE1
   refine lc_range (fun k H'' => Same H1 H'' ∧ H'' E1 = some (.lst ((List.range k).map fun k => V.int ((awayOn m (awF m n) k : Nat) : Int)))) ⟨Same.new hE1, upd_same⟩ ?_ ?_
   · rintro j H2 hj ⟨s2, hy2⟩
     have hj : j < 49 := hj
     have s12 := s1.trans s2
     rw [Int.zero_add]
     walk_at "go"
     refine ⟨rfl, ?_⟩
     walk_at "go"
     refine w_ixL (SqL.of (s12 _ _ hhl)) (setsV_at rfl hj) ?_
     walk_at "go"
     refine w_ixL (SqL.of (s2 _ _ hy)) (setsV_at rfl hj) ?_
     walk_at "go"
     refine ⟨f, m.w, m.h, dif (every m.w m.h) (awF m n j), j, rfl, hF.mono s12, hFp.mono s12, InF.dif (every_in _ _), hj, fun H3 s3 => ?_⟩
     walk_at "go"
     refine ⟨_, s3 _ _ hy2, small100 (by rw [List.length_map, List.length_range]; omega), (s2.trans s3).set hE1, ?_⟩
     rw [upd_same, List.range_succ, List.map_append]
     rfl
   · rintro H2 ⟨s2, hy2⟩
     have hy2 : H2 E1 = some (.lst (setsV (awayOn m (awF m n)))) := hy2
     have s12 := s1.trans s2
     walk_at "go"
     refine ⟨mv, E1, hl, awayOn m (awF m n), harmF m, rfl, hmv.mono s12, SqL.of hy2, SqL.of (s12 _ _ hhl), fun bu H3 s3 hbu ebu => ?_⟩
     have s13 := s12.trans s3
     walk_at "go"
     refine ⟨_, rfl, by decide, by decide, ?_⟩
     intro E2 hE2
     refine lc_range (fun k H'' => Same H3 H'' ∧ H'' E2 = some (.lst ((List.range k).map fun k => V.int ((awF m (n + 1) k : Nat) : Int)))) ⟨Same.new hE2, upd_same⟩ ?_ ?_
     · rintro j H4 hj ⟨s4, hy4⟩
       have hj : j < 49 := hj
       have s14 := s13.trans s4
       rw [Int.zero_add]
       walk_at "go"
       refine ⟨rfl, ?_⟩
       walk_at "go"
       refine w_ixL (SqL.of (s4 _ _ ebu)) (setsV_at rfl hj) ?_
       walk_at "go"
       refine w_ixL (SqL.of (s14 _ _ hth)) (setsV_at rfl hj) ?_
       walk_at "go"
       refine ⟨_, hy4, small100 (by rw [List.length_map, List.length_range]; omega), s4.set hE2, ?_⟩
       rw [upd_same, List.range_succ, List.map_append]
       rfl
     · rintro H4 ⟨s4, hy4⟩
       exact k E2 H4 (s13.trans s4) (s13.free hE2) hy4
def AwV (H : Hp) (m : Sr40.Map_) (L : Addr) (v : V) (j : Nat) : Prop := ∃ l, v = .ref l ∧ l ≠ L ∧ H l = some (.lst (setsV (awF m j)))
def AwaysAt (H : Hp) (m : Sr40.Map_) (p : Addr) (n : Nat) : Prop := ∃ xs, H p = some (.lst xs) ∧ Paired (AwV H m p) xs (List.range (n + 1))
theorem AwV.mono {H H' : Hp} {m : Sr40.Map_} {L : Addr} {v : V} {j : Nat} (s : Same H H') (h : AwV H m L v j) : AwV H' m L v j := by
 obtain ⟨l, e, n, q⟩ := h
 exact ⟨l, e, n, s _ _ q⟩
theorem AwV.upd_ {H : Hp} {m : Sr40.Map_} {L : Addr} {v : V} {j : Nat} {o : HO} (h : AwV H m L v j) : AwV (upd H L o) m L v j := by
 obtain ⟨l, e, n, q⟩ := h
 exact ⟨l, e, n, by rw [upd_ne n]; exact q⟩
theorem AwaysAt.mono {H H' : Hp} {m : Sr40.Map_} {p : Addr} {n : Nat} (s : Same H H') (h : AwaysAt H m p n) : AwaysAt H' m p n := by
 obtain ⟨xs, h1, h2⟩ := h
 exact ⟨xs, s _ _ h1, Paired.imp' (fun _ _ z => AwV.mono s z) h2⟩
theorem sc_away_levels : FnScope ["chart", "drifts", "there", "moves", "levels", "level", "k"] ["chart", "drifts"] (defScope (top 67)) := fS
def sp_away_levels (T : Txt K mg) : Sp := fun vs H Q _ => ∃ (c d f hd pt bx f' hl : Addr) (m : Sr40.Map_), vs = [.ref c, .ref d] ∧ ChartIs T H c m f hd pt bx ∧ DriftsIs T H d m f' hl ∧ GoodM m ∧ ∀ p H' n, Same H H' → H p = none → StopsA m n → AwaysAt H' m p n → Q (.ref p) H'
theorem ok_away_levels (T : Txt K mg) : FnOk P w K mg base CX0 5 T.routes.away_levels.a T.routes.away_levels.fd ["chart", "drifts"] (sp_away_levels T) := by
 refine T.routes.away_levels.F.ok sc_away_levels (fun _ _ _ _ h => by obtain ⟨c, d, f, hd, pt, bx, f', hl, m, rfl, _⟩ := h; rfl) (fun cdv A outer s H vs Q E hr h => ?_)
 obtain ⟨c, d, f, hd, pt, bx, f', hl, m, rfl, hC, hDr, g, k⟩ := h
 refine ⟨_, (pss_cons (sA 2 sc_away_levels.nd (cG T.routes.there_places (ok_there_places T) hr (pa_cons (pv 0) pa_nil)))
  (pss_cons (sA 3 sc_away_levels.nd (pe_call0 (ok_moves_by_speed T) (hr.mono (by decide)) rfl T.routes.moves_by_speed.m T.routes.moves_by_speed.F.kp T.routes.moves_by_speed.b .nil pass0))
  (pss_cons (sA 4 sc_away_levels.nd (pe_lst (pa_cons (pe_lc rfl sc_away_levels.nd (pi_range1 rfl T.n_range (pa_cons (pe_glob rfl T.motion.SPEED_COUNT.g T.motion.SPEED_COUNT.r) pa_nil)) (own := [("k", 6)]) (blkOk_by (by show blkC ["chart", "drifts", "there", "moves", "levels", "level", "k"] (defScope (top 67)) _ _ = true; decide +kernel)) (fun _ _ _ _ _ => (gN 6 sc_away_levels.nd)) (fun _ _ _ _ _ => pts_nil) (fun _ _ _ _ _ => pe_int)) pa_nil)))
  (pss_cons (ps_while PassesOwn.never (pt_cmpR op_le (pe_callB (lenK K) rfl T.n_len boot_len (pa_cons (pv 4) pa_nil)) (pe_glob rfl T.routes.MOST_TICKS.g T.routes.MOST_TICKS.r) (nomark _)) (pss_cons (sA 5 sc_away_levels.nd (cG T.routes.next_away_level (ok_next_away_level T) hr (pa_cons (fldK K (pv 0) rfl) (pa_cons (fldK K (pv 1) rfl) (pa_cons (pv 2) (pa_cons (pv 3) (pa_cons (xL K (pv 4) (pe_un un_neg pe_int)) pa_nil)))))))
  (pss_cons (ps_if (pt_cmpR (eqK K hr.units) (pv 5) (xL K (pv 4) (pe_un un_neg pe_int)) (nomark _)) (pss_one ps_break) pss_nil)
  (pss_one (ps_expr (appK K (pe_bm PySem.F.plainAttrs_list PySem.F.slot_list_append PySem.F.type_list_append mt_append (pv 4) (pa_cons (pv 5) pa_nil))))))))
  (pss_one (ps_ret (pv 4))))))), ?_⟩
 try dsimp only [cxOf]
 walk_at "go"
 refine ⟨c, f, hd, pt, bx, m, rfl, hC, g, fun th H1 s1 hth0 hth => ?_⟩
 walk_at "go"
 refine ⟨rfl, fun mv H2 s2 hmv0 hmv => ?_⟩
 walk_at "go"
 refine ⟨_, rfl, by decide, by decide, ?_⟩
 intro Z hZ
 have s12 := s1.trans s2
 refine lc_range (fun i H' => Same H2 H' ∧ H' Z = some (.lst ((List.range i).map fun k => V.int ((awF m 0 k : Nat) : Int)))) ⟨Same.new hZ, upd_same⟩ ?_ ?_
 · rintro i H' hi ⟨s3, hy⟩
   have hi : i < 49 := hi
   walk_at "go"
   refine ⟨rfl, ?_⟩
   walk_at "go"
   refine ⟨_, hy, small100 (by rw [List.length_map, List.length_range]; omega), s3.set hZ, ?_⟩
   rw [upd_same, List.range_succ, List.map_append]
   rfl
 · rintro H3 ⟨s3, hy⟩
   have hy : H3 Z = some (.lst (setsV (awF m 0))) := hy
   walk_at "go"
   refine w_small (by show 1 ≤ 1000; decide) fun Lv hLv => ?_
   have s4 : Same H3 (upd H3 Lv (.lst [.ref Z])) := Same.new hLv
   have eL : upd H3 Lv (.lst [.ref Z]) Lv = some (.lst [.ref Z]) := upd_same
   have hth3 := s3 _ _ (s2 _ _ hth)
   have hmv3 := hmv.mono s3
   have s123 := s12.trans s3
   have hZL : Z ≠ Lv := ne_of_none hy hLv
   generalize upd H3 Lv (.lst [.ref Z]) = H4 at s4 eL ⊢
   have fr : H Lv = none := s123.free hLv
   walk_at "go"
   refine w_while (fun n0 σ' H' => ∃ n v5 v6, n0 = 250 - n ∧ n ≤ 250 ∧ Same H3 H' ∧ AwaysAt H' m Lv n ∧ σ' = [some (.ref c), some (.ref d), some (.ref th), some (.ref mv), some (.ref Lv), v5, v6]) (m0 := 250) ⟨0, _, _, rfl, by decide, s4, ⟨_, eL, .cons ⟨Z, rfl, hZL, s4 _ _ hy⟩ .nil⟩, rfl⟩ ?_
   rintro n0 σ' H' ⟨n, v5, v6, rfl, hn, s3H, ⟨xs, hxs, hps⟩, rfl⟩
   have sH := s123.trans s3H
   have htH := s3H _ _ hth3
   have hmH := hmv3.mono s3H
   have hlen : xs.length = n + 1 := by rw [Paired.length hps, List.length_range]
   have hxsq := SqL.of (K := K) hxs
   walk_at "go"
   rw [hlen]
   refine ite2 (fun hc => ?_) (fun hc => ?_)
   · have hc : ((n + 1 : Nat) : Int) ≤ 250 := of_decide_eq_true hc
     have hCH := hC.mono sH
     have hDH := hDr.mono sH
     rw [List.range_succ] at hps
     obtain ⟨ini, last, exs, hini, l, rfl, hlL, hlast⟩ := paired_last hps
     have hat : atI xs (-1) = some (V.ref l) := by rw [exs]; exact atI_last _ _
     refine ⟨fun σ' H'' => ∃ v5 v6, Same H3 H'' ∧ AwaysAt H'' m Lv (n + 1) ∧ σ' = [some (.ref c), some (.ref d), some (.ref th), some (.ref mv), some (.ref Lv), v5, v6], ?_, ?_⟩
     · rintro σ' H'' ⟨v5, v6, q1, q3, rfl⟩
       exact ⟨250 - (n + 1), by omega, n + 1, v5, v6, rfl, by omega, q1, q3, rfl⟩
     walk_at "go"
     refine r_harmless hDH ?_
     walk_at "go"
     refine w_ixL hxsq hat ?_
     walk_at "go"
     refine ⟨f, hl, th, mv, l, m, n, rfl, g, hCH.field, hCH.fp, hDH.harm', htH, hmH, hlast, fun p H5 s5 hp0 hp => ?_⟩
     have hxs5 := SqL.of (K := K) (s5 _ _ hxs)
     walk_at "go"
     refine w_ixL hxs5 hat ?_
     refine w_eqD (dp_sets hp) (dp_sets (s5 _ _ hlast)) (sets_shaped _) (sets_shaped _) ?_
     walk_at "go"
     refine ite2 (fun he => ?_) (fun he => ?_)
     · have he := (eqv_sets _ _).mp he
       walk_at "go"
       refine k Lv H5 n (sH.trans s5) fr (.inr ⟨by omega, he⟩) ⟨xs, s5 _ _ hxs, ?_⟩
       rw [List.range_succ]
       exact Paired.imp' (fun _ _ z => AwV.mono s5 z) hps
     · walk_at "go"
       refine w_bm ?_
       walk_at "go"
       refine ⟨.inl ⟨rfl, _, hxs5⟩, ?_⟩
       walk_at "go"
       refine w_append (s5 _ _ hxs) (by omega) ?_
       walk_at "go"
       have nL : p ≠ Lv := fun e => by rw [e, hxs] at hp0; cases hp0
       refine ⟨_, _, (s3H.trans s5).set hLv, ⟨_, upd_same, ?_⟩, rfl⟩
       rw [List.range_succ (n := n + 1), List.range_succ]
       exact (Paired.imp' (fun _ _ z => AwV.upd_ (AwV.mono s5 z)) hps).snoc (AwV.upd_ ⟨p, rfl, nL, hp⟩)
   · have hc : ¬ ((n + 1 : Nat) : Int) ≤ 250 := fun e => hc (decide_eq_true e)
     walk_at "go"
     exact k Lv H' n sH fr (.inl (by omega)) ⟨xs, hxs, hps⟩
end
section
variable {P : Program} {w : World} {K : PySem.W.Frag} {mg : Str → Option Value} {base : Heap}
theorem ChartIs.updI {T : Txt K mg} {H : Hp} {c : Addr} {m : Sr40.Map_} {f hd pt bx p C dx : Addr} {fs : List (Str × V)} {o : HO} (h : ChartIs T H c m f hd pt bx) (hp : H p = some (.ins C dx fs)) (n1 : c ≠ p) (n2 : f ≠ p) : ChartIs T (upd H p o) c m f hd pt bx := by
 obtain ⟨cx, e⟩ := h.at_
 obtain ⟨fx, e2⟩ := h.field
 have hF : FieldAt T (upd H p o) f m.w m.h := ⟨fx, by rw [upd_ne n2]; exact e2⟩
 exact ⟨⟨cx, by rw [upd_ne n1]; exact e⟩, hF, hF.p h.fp.w32 h.fp.h32, sqT_updI h.head hp, sqT_updI h.port hp, boxL_updI h.boxes hp⟩
theorem lst_updI {H : Hp} {a p C dx : Addr} {xs : List V} {fs : List (Str × V)} {o : HO} (h : H a = some (.lst xs)) (hp : H p = some (.ins C dx fs)) : upd H p o a = some (.lst xs) := by
 rw [upd_ne (ne_of h hp (by intro z; cases z))]
 exact h
theorem DriftsIs.updI {T : Txt K mg} {H : Hp} {d : Addr} {m : Sr40.Map_} {f hl p C dx : Addr} {fs : List (Str × V)} {o : HO} (h : DriftsIs T H d m f hl) (hp : H p = some (.ins C dx fs)) (n1 : d ≠ p) (n2 : f ≠ p) : DriftsIs T (upd H p o) d m f hl := by
 obtain ⟨cx, e⟩ := h.at_
 obtain ⟨fx, e2⟩ := h.field
 have hF : FieldAt T (upd H p o) f m.w m.h := ⟨fx, by rw [upd_ne n2]; exact e2⟩
 exact ⟨⟨cx, by rw [upd_ne n1]; exact e⟩, hF, hF.p h.fp.w32 h.fp.h32, lst_updI h.harm hp⟩
theorem SetN.updI {N : Addr → Prop} {H : Hp} {m : Sr40.Map_} {n : Nat} {v : V} {g : Nat} {p C dx : Addr} {fs : List (Str × V)} {o : HO} (h : SetN N H m n v g) (hp : H p = some (.ins C dx fs)) : SetN N (upd H p o) m n v g := by
 obtain ⟨a, e, q, r⟩ := h
 exact ⟨a, e, q, lst_updI r hp⟩
theorem LevelsAt.updI {N : Addr → Prop} {H : Hp} {m : Sr40.Map_} {l : Addr} {n : Nat} {p C dx : Addr} {fs : List (Str × V)} {o : HO} (h : LevelsAt N H m l n) (hp : H p = some (.ins C dx fs)) : LevelsAt N (upd H p o) m l n := by
 obtain ⟨xs, h1, h2⟩ := h
 refine ⟨xs, lst_updI h1 hp, Paired.imp' (fun _ _ z => ?_) h2⟩
 obtain ⟨l, e, ys, q, r, t⟩ := z
 exact ⟨l, e, ys, q, lst_updI r hp, Paired.imp' (fun _ _ z => SetN.updI z hp) t⟩
theorem AwaysAt.updI {H : Hp} {m : Sr40.Map_} {l : Addr} {n : Nat} {p C dx : Addr} {fs : List (Str × V)} {o : HO} (h : AwaysAt H m l n) (hp : H p = some (.ins C dx fs)) : AwaysAt (upd H p o) m l n := by
 obtain ⟨xs, h1, h2⟩ := h
 refine ⟨xs, lst_updI h1 hp, Paired.imp' (fun _ _ z => ?_) h2⟩
 obtain ⟨l, e, q, r⟩ := z
 exact ⟨l, e, q, lst_updI r hp⟩
theorem LevelsAt.mono {N : Addr → Prop} {H H' : Hp} {m : Sr40.Map_} {l : Addr} {n : Nat} (s : Same H H') (h : LevelsAt N H m l n) : LevelsAt N H' m l n := by
 obtain ⟨xs, h1, h2⟩ := h
 refine ⟨xs, s _ _ h1, Paired.imp' (fun _ _ z => ?_) h2⟩
 obtain ⟨l, e, q⟩ := z
 exact ⟨l, e, q.mono s⟩
def routesFs (f d lv : Addr) : List (Str × V) := [("field", .ref f), ("drifts", .ref d), ("levels", .ref lv)]
structure SureIs (T : Txt K mg) (H : Hp) (p : Addr) (m : Sr40.Map_) (f d lv f' hl : Addr) (n : Nat) : Prop where
 at_ : ∃ dx, H p = some (.ins T.routes.SureRoutes.A dx (routesFs f d lv))
 field : FieldAt T H f m.w m.h
 fp : FieldP T H f m.w m.h
 drifts : DriftsIs T H d m f' hl
 levels : LevelsAt (fun _ => True) H m lv n
 stops : StopsAt m n
structure AwayIs (T : Txt K mg) (H : Hp) (p : Addr) (m : Sr40.Map_) (f d lv f' hl : Addr) (n : Nat) : Prop where
 at_ : ∃ dx, H p = some (.ins T.routes.AwayRoutes.A dx (routesFs f d lv))
 field : FieldAt T H f m.w m.h
 fp : FieldP T H f m.w m.h
 drifts : DriftsIs T H d m f' hl
 levels : AwaysAt H m lv n
 stops : StopsA m n
theorem SureIs.mono {T : Txt K mg} {H H' : Hp} {p : Addr} {m : Sr40.Map_} {f d lv f' hl : Addr} {n : Nat} (s : Same H H') (h : SureIs T H p m f d lv f' hl n) : SureIs T H' p m f d lv f' hl n := by
 obtain ⟨dx, e⟩ := h.at_
 exact ⟨⟨dx, s _ _ e⟩, h.field.mono s, h.fp.mono s, h.drifts.mono s, h.levels.mono s, h.stops⟩
theorem AwayIs.mono {T : Txt K mg} {H H' : Hp} {p : Addr} {m : Sr40.Map_} {f d lv f' hl : Addr} {n : Nat} (s : Same H H') (h : AwayIs T H p m f d lv f' hl n) : AwayIs T H' p m f d lv f' hl n := by
 obtain ⟨dx, e⟩ := h.at_
 exact ⟨⟨dx, s _ _ e⟩, h.field.mono s, h.fp.mono s, h.drifts.mono s, h.levels.mono s, h.stops⟩
theorem ins_ne {H : Hp} {a p C dx C' dx' : Addr} {fs fs' : List (Str × V)} (h : H a = some (.ins C dx fs)) (hp : H p = some (.ins C' dx' fs')) (hl : fs.length ≠ fs'.length) : a ≠ p := ne_of h hp (by intro z; injection z with _ _ z; exact hl (by rw [z]))
theorem sc_SureRoutes_init : FnScope ["self", "chart", "drifts"] ["self", "chart", "drifts"] (defScope (inClass (top 62) 0)) := fS
def sp_SureRoutes_init (T : Txt K mg) : Sp := fun vs H Q _ => ∃ (p dx c d f hd pt bx f' hl : Addr) (m : Sr40.Map_), vs = [.ref p, .ref c, .ref d] ∧ H p = some (.ins T.routes.SureRoutes.A dx []) ∧ ChartIs T H c m f hd pt bx ∧ DriftsIs T H d m f' hl ∧ GoodM m ∧ ∀ H' lv n, SureIs T H' p m f d lv f' hl n → (∀ b o, H b = some o → b ≠ p → H' b = some o) → Q .non H'
theorem ok_SureRoutes_init (T : Txt K mg) : FnOk P w K mg base CX0 6 T.routes.SureRoutes_init.a T.routes.SureRoutes_init.fd ["self", "chart", "drifts"] (sp_SureRoutes_init T) := by
 refine T.routes.SureRoutes_init.F.ok sc_SureRoutes_init (fun _ _ _ _ h => by obtain ⟨p, dx, c, d, f, hd, pt, bx, f', hl, m, rfl, _⟩ := h; rfl) (fun cdv A outer s H vs Q E hr h => ?_)
 obtain ⟨p, dx, c, d, f, hd, pt, bx, f', hl, m, rfl, hp, hC, hD, g, k⟩ := h
 refine ⟨_, (pss_cons (sfldK K (pv 0) (fldK K (pv 1) rfl) rfl)
  (pss_cons (sfldK K (pv 0) (pv 2) rfl)
  (pss_one (sfldK K (pv 0) (cG T.routes.sure_levels (ok_sure_levels T) hr (pa_cons (pv 1) (pa_cons (pv 2) pa_nil))) rfl)))), ?_⟩
 try dsimp only [cxOf]
 have ncp : c ≠ p := by
   obtain ⟨cx, e⟩ := hC.at_
   exact ins_ne e hp (by show 4 ≠ 0; decide)
 have nfp : f ≠ p := by
   obtain ⟨cx, e⟩ := hC.field
   exact ins_ne e hp (by show 4 ≠ 0; decide)
 have ndp : d ≠ p := by
   obtain ⟨cx, e⟩ := hD.at_
   exact ins_ne e hp (by show 2 ≠ 0; decide)
 have nfp' : f' ≠ p := by
   obtain ⟨cx, e⟩ := hD.field
   exact ins_ne e hp (by show 4 ≠ 0; decide)
 walk_at "go"
 refine w_sfldR hp T.routes.SureRoutes.C T.routes.SureRoutes.na.1 (show 0 < 1000 by decide) ?_
 walk_at "go"
 refine w_sfldR upd_same T.routes.SureRoutes.C T.routes.SureRoutes.na.2.1 (show 1 < 1000 by decide) ?_
 rw [upd_upd]
 have hC1 := hC.updI (o := .ins T.routes.SureRoutes.A dx (putF "drifts" (.ref d) (putF "field" (.ref f) []))) hp ncp nfp
 have hD1 := hD.updI (o := .ins T.routes.SureRoutes.A dx (putF "drifts" (.ref d) (putF "field" (.ref f) []))) hp ndp nfp'
 have e1 : upd H p (.ins T.routes.SureRoutes.A dx (putF "drifts" (.ref d) (putF "field" (.ref f) []))) p = some (.ins T.routes.SureRoutes.A dx (putF "drifts" (.ref d) (putF "field" (.ref f) []))) := upd_same
 have rd : ∀ b o, H b = some o → b ≠ p → upd H p (.ins T.routes.SureRoutes.A dx (putF "drifts" (.ref d) (putF "field" (.ref f) []))) b = some o := fun b o e hb => by rw [upd_ne hb]; exact e
 generalize upd H p (.ins T.routes.SureRoutes.A dx (putF "drifts" (.ref d) (putF "field" (.ref f) []))) = H1 at hC1 hD1 e1 rd ⊢
 walk_at "go"
 refine ⟨c, d, f, hd, pt, bx, f', hl, m, rfl, hC1, hD1, g, fun lv H2 n s2 hlv hst hls => ?_⟩
 have e2 := s2 _ _ e1
 have hC2 := (hC1.mono s2).updI (o := .ins T.routes.SureRoutes.A dx (putF "levels" (.ref lv) (putF "drifts" (.ref d) (putF "field" (.ref f) [])))) e2 ncp nfp
 have hD2 := (hD1.mono s2).updI (o := .ins T.routes.SureRoutes.A dx (putF "levels" (.ref lv) (putF "drifts" (.ref d) (putF "field" (.ref f) [])))) e2 ndp nfp'
 walk_at "go"
 refine w_sfldR e2 T.routes.SureRoutes.C T.routes.SureRoutes.na.2.2.1 (show 2 < 1000 by decide) ?_
 refine k _ lv n ⟨⟨dx, upd_same⟩, hC2.field, hC2.fp, hD2, hls.updI e2, hst⟩ fun b o e hb => ?_
 rw [upd_ne hb]
 exact s2 _ _ (rd _ _ e hb)
theorem sc_AwayRoutes_init : FnScope ["self", "chart", "drifts"] ["self", "chart", "drifts"] (defScope (inClass (top 63) 0)) := fS
def sp_AwayRoutes_init (T : Txt K mg) : Sp := fun vs H Q _ => ∃ (p dx c d f hd pt bx f' hl : Addr) (m : Sr40.Map_), vs = [.ref p, .ref c, .ref d] ∧ H p = some (.ins T.routes.AwayRoutes.A dx []) ∧ ChartIs T H c m f hd pt bx ∧ DriftsIs T H d m f' hl ∧ GoodM m ∧ ∀ H' lv n, AwayIs T H' p m f d lv f' hl n → (∀ b o, H b = some o → b ≠ p → H' b = some o) → Q .non H'
theorem ok_AwayRoutes_init (T : Txt K mg) : FnOk P w K mg base CX0 6 T.routes.AwayRoutes_init.a T.routes.AwayRoutes_init.fd ["self", "chart", "drifts"] (sp_AwayRoutes_init T) := by
 refine T.routes.AwayRoutes_init.F.ok sc_AwayRoutes_init (fun _ _ _ _ h => by obtain ⟨p, dx, c, d, f, hd, pt, bx, f', hl, m, rfl, _⟩ := h; rfl) (fun cdv A outer s H vs Q E hr h => ?_)
 obtain ⟨p, dx, c, d, f, hd, pt, bx, f', hl, m, rfl, hp, hC, hD, g, k⟩ := h
 refine ⟨_, (pss_cons (sfldK K (pv 0) (fldK K (pv 1) rfl) rfl)
  (pss_cons (sfldK K (pv 0) (pv 2) rfl)
  (pss_one (sfldK K (pv 0) (cG T.routes.away_levels (ok_away_levels T) hr (pa_cons (pv 1) (pa_cons (pv 2) pa_nil))) rfl)))), ?_⟩
 try dsimp only [cxOf]
 have ncp : c ≠ p := by
   obtain ⟨cx, e⟩ := hC.at_
   exact ins_ne e hp (by show 4 ≠ 0; decide)
 have nfp : f ≠ p := by
   obtain ⟨cx, e⟩ := hC.field
   exact ins_ne e hp (by show 4 ≠ 0; decide)
 have ndp : d ≠ p := by
   obtain ⟨cx, e⟩ := hD.at_
   exact ins_ne e hp (by show 2 ≠ 0; decide)
 have nfp' : f' ≠ p := by
   obtain ⟨cx, e⟩ := hD.field
   exact ins_ne e hp (by show 4 ≠ 0; decide)
 walk_at "go"
 refine w_sfldR hp T.routes.AwayRoutes.C T.routes.AwayRoutes.na.1 (show 0 < 1000 by decide) ?_
 walk_at "go"
 refine w_sfldR upd_same T.routes.AwayRoutes.C T.routes.AwayRoutes.na.2.1 (show 1 < 1000 by decide) ?_
 rw [upd_upd]
 have hC1 := hC.updI (o := .ins T.routes.AwayRoutes.A dx (putF "drifts" (.ref d) (putF "field" (.ref f) []))) hp ncp nfp
 have hD1 := hD.updI (o := .ins T.routes.AwayRoutes.A dx (putF "drifts" (.ref d) (putF "field" (.ref f) []))) hp ndp nfp'
 have e1 : upd H p (.ins T.routes.AwayRoutes.A dx (putF "drifts" (.ref d) (putF "field" (.ref f) []))) p = some (.ins T.routes.AwayRoutes.A dx (putF "drifts" (.ref d) (putF "field" (.ref f) []))) := upd_same
 have rd : ∀ b o, H b = some o → b ≠ p → upd H p (.ins T.routes.AwayRoutes.A dx (putF "drifts" (.ref d) (putF "field" (.ref f) []))) b = some o := fun b o e hb => by rw [upd_ne hb]; exact e
 generalize upd H p (.ins T.routes.AwayRoutes.A dx (putF "drifts" (.ref d) (putF "field" (.ref f) []))) = H1 at hC1 hD1 e1 rd ⊢
 walk_at "go"
 refine ⟨c, d, f, hd, pt, bx, f', hl, m, rfl, hC1, hD1, g, fun lv H2 n s2 hlv hst hls => ?_⟩
 have e2 := s2 _ _ e1
 have hC2 := (hC1.mono s2).updI (o := .ins T.routes.AwayRoutes.A dx (putF "levels" (.ref lv) (putF "drifts" (.ref d) (putF "field" (.ref f) [])))) e2 ncp nfp
 have hD2 := (hD1.mono s2).updI (o := .ins T.routes.AwayRoutes.A dx (putF "levels" (.ref lv) (putF "drifts" (.ref d) (putF "field" (.ref f) [])))) e2 ndp nfp'
 walk_at "go"
 refine w_sfldR e2 T.routes.AwayRoutes.C T.routes.AwayRoutes.na.2.2.1 (show 2 < 1000 by decide) ?_
 refine k _ lv n ⟨⟨dx, upd_same⟩, hC2.field, hC2.fp, hD2, hls.updI e2, hst⟩ fun b o e hb => ?_
 rw [upd_ne hb]
 exact s2 _ _ (rd _ _ e hb)
theorem SureIs.meth {T : Txt K mg} {H : Hp} {p : Addr} {m : Sr40.Map_} {f d lv f' hl : Addr} {n : Nat} {R : Prop} {x : Str} (S : SureIs T H p m f d lv f' hl n) (hx : (routesFs f d lv).lookup x = none) (q : R) : MethR T.routes.SureRoutes.A x (.ref p) H R := by
 obtain ⟨dx, e⟩ := S.at_
 exact w_methR e hx q
theorem AwayIs.meth {T : Txt K mg} {H : Hp} {p : Addr} {m : Sr40.Map_} {f d lv f' hl : Addr} {n : Nat} {R : Prop} {x : Str} (S : AwayIs T H p m f d lv f' hl n) (hx : (routesFs f d lv).lookup x = none) (q : R) : MethR T.routes.AwayRoutes.A x (.ref p) H R := by
 obtain ⟨dx, e⟩ := S.at_
 exact w_methR e hx q
theorem rs_field {T : Txt K mg} {H : Hp} {p : Addr} {m : Sr40.Map_} {f d lv f' hl : Addr} {n : Nat} {Q : VK} (S : SureIs T H p m f d lv f' hl n) (q : Q (.ref f) H) : FldR K "field" (.ref p) H Q := by
 obtain ⟨dx, e⟩ := S.at_
 exact w_fldR e T.routes.SureRoutes.C T.routes.SureRoutes.na.1 rfl q
theorem rs_drifts {T : Txt K mg} {H : Hp} {p : Addr} {m : Sr40.Map_} {f d lv f' hl : Addr} {n : Nat} {Q : VK} (S : SureIs T H p m f d lv f' hl n) (q : Q (.ref d) H) : FldR K "drifts" (.ref p) H Q := by
 obtain ⟨dx, e⟩ := S.at_
 exact w_fldR e T.routes.SureRoutes.C T.routes.SureRoutes.na.2.1 rfl q
theorem rs_levels {T : Txt K mg} {H : Hp} {p : Addr} {m : Sr40.Map_} {f d lv f' hl : Addr} {n : Nat} {Q : VK} (S : SureIs T H p m f d lv f' hl n) (q : Q (.ref lv) H) : FldR K "levels" (.ref p) H Q := by
 obtain ⟨dx, e⟩ := S.at_
 exact w_fldR e T.routes.SureRoutes.C T.routes.SureRoutes.na.2.2.1 rfl q
theorem ra_field {T : Txt K mg} {H : Hp} {p : Addr} {m : Sr40.Map_} {f d lv f' hl : Addr} {n : Nat} {Q : VK} (S : AwayIs T H p m f d lv f' hl n) (q : Q (.ref f) H) : FldR K "field" (.ref p) H Q := by
 obtain ⟨dx, e⟩ := S.at_
 exact w_fldR e T.routes.AwayRoutes.C T.routes.AwayRoutes.na.1 rfl q
theorem ra_drifts {T : Txt K mg} {H : Hp} {p : Addr} {m : Sr40.Map_} {f d lv f' hl : Addr} {n : Nat} {Q : VK} (S : AwayIs T H p m f d lv f' hl n) (q : Q (.ref d) H) : FldR K "drifts" (.ref p) H Q := by
 obtain ⟨dx, e⟩ := S.at_
 exact w_fldR e T.routes.AwayRoutes.C T.routes.AwayRoutes.na.2.1 rfl q
theorem ra_levels {T : Txt K mg} {H : Hp} {p : Addr} {m : Sr40.Map_} {f d lv f' hl : Addr} {n : Nat} {Q : VK} (S : AwayIs T H p m f d lv f' hl n) (q : Q (.ref lv) H) : FldR K "levels" (.ref p) H Q := by
 obtain ⟨dx, e⟩ := S.at_
 exact w_fldR e T.routes.AwayRoutes.C T.routes.AwayRoutes.na.2.2.1 rfl q
theorem sc_SureRoutes_is_sure : FnScope ["self", "state", "ticks", "misfires", "level"] ["self", "state", "ticks", "misfires"] (defScope (inClass (top 62) 1)) := fS
def sp_SureRoutes_is_sure (T : Txt K mg) : Sp := fun vs H Q _ => ∃ (p a f d lv f' hl : Addr) (m : Sr40.Map_) (n t c : Nat) (s : Sr40.State), vs = [.ref p, .ref a, .int (t : Int), .int (c : Int)] ∧ SureIs T H p m f d lv f' hl n ∧ StT K H a s ∧ Slow s ∧ t ≤ 250 ∧ c < 8 ∧ Q (.bl (hasS m (levF m t c) s)) H
theorem ok_SureRoutes_is_sure (T : Txt K mg) : FnOk P w K mg base CX0 3 T.routes.SureRoutes_is_sure.a T.routes.SureRoutes_is_sure.fd ["self", "state", "ticks", "misfires"] (sp_SureRoutes_is_sure T) := by
 refine T.routes.SureRoutes_is_sure.F.ok sc_SureRoutes_is_sure (fun _ _ _ _ h => by obtain ⟨p, a, f, d, lv, f', hl, m, n, t, c, s, rfl, _⟩ := h; rfl) (fun cdv A outer s H vs Q E hr h => ?_)
 obtain ⟨p, a, f, d, lv, f', hl, m, n, t, c, s, rfl, hS, ha, hs, ht, hc, k⟩ := h
 refine ⟨_, (pss_cons (sA 4 sc_SureRoutes_is_sure.nd (xL K (fldK K (pv 0) rfl) (pe_callB (cm_min rfl) rfl T.n_min boot_min (pa_cons (pv 2) (pa_cons (pe_op op_sub (pe_callB (lenK K) rfl T.n_len boot_len (pa_cons (fldK K (pv 0) rfl) pa_nil)) pe_int) pa_nil)))))
  (pss_one (ps_ret (cG T.routes.has_state (ok_has_state T) hr (pa_cons (fldK K (pv 0) rfl) (pa_cons (xL K (pv 4) (pv 3)) (pa_cons (pv 1) pa_nil))))))), ?_⟩
 try dsimp only [cxOf]
 obtain ⟨xs, hxs, hps⟩ := hS.levels
 have hlen : xs.length = n + 1 := by rw [Paired.length hps, List.length_range]
 have hsq := SqL.of (K := K) hxs
 obtain ⟨v, hv, l, rfl, ys, _, hl1, hsets⟩ := paired_get hps (show (List.range (n + 1))[min t n]? = some (min t n) from List.getElem?_range (by omega))
 obtain ⟨v, hv2, b, rfl, _, hb⟩ := paired_get hsets (show (List.range 8)[c]? = some c from List.getElem?_range hc)
 walk_at "go"
 refine rs_levels hS ?_
 walk_at "go"
 refine rs_levels hS ?_
 walk_at "go"
 rw [hlen]
 refine w_ixL hsq (at_of (j := min t n) (by omega) hv) ?_
 walk_at "go"
 refine rs_field hS ?_
 walk_at "go"
 refine w_ixL (SqL.of hl1) (at_of (j := c) rfl hv2) ?_
 walk_at "go"
 refine ⟨f, b, a, m, _, s, rfl, hS.field, hS.fp, SqL.of hb, ha, hs, ?_⟩
 refine qbl k ?_
 unfold hasS
 rw [hS.stops.at_ ht hc (numV_lt (sp_of hs))]
end
section
variable {P : Program} {w : World} {K : PySem.W.Frag} {mg : Str → Option Value} {base : Heap}
theorem sc_SureRoutes_most_misfires : FnScope ["self", "state", "misfires"] ["self", "state"] (defScope (inClass (top 62) 2)) := fS
theorem rng7 : RgC 7 (-1) (-1) 8 := ⟨by decide, by decide, by decide, by decide⟩
def optV : Option Nat → V
 | none => .non
 | some c => .int (c : Int)
def sp_SureRoutes_most_misfires (T : Txt K mg) : Sp := fun vs H Q _ => ∃ (p a f d lv f' hl : Addr) (m : Sr40.Map_) (n : Nat) (s : Sr40.State), vs = [.ref p, .ref a] ∧ SureIs T H p m f d lv f' hl n ∧ StT K H a s ∧ Slow s ∧ Q (optV (mostP m s)) H
theorem ok_SureRoutes_most_misfires (T : Txt K mg) : FnOk P w K mg base CX0 4 T.routes.SureRoutes_most_misfires.a T.routes.SureRoutes_most_misfires.fd ["self", "state"] (sp_SureRoutes_most_misfires T) := by
 refine T.routes.SureRoutes_most_misfires.F.ok sc_SureRoutes_most_misfires (fun _ _ _ _ h => by obtain ⟨p, a, f, d, lv, f', hl, m, n, s, rfl, _⟩ := h; rfl) (fun cdv A outer s H vs Q E hr h => ?_)
 obtain ⟨p, a, f, d, lv, f', hl, m, n, s, rfl, hS, ha, hs, k⟩ := h
 refine ⟨_, (pss_cons (ps_for PassesOwn.never rfl (pi_range3 rfl T.n_range (pa_cons (pe_glob rfl T.routes.MOST_MISFIRES.g T.routes.MOST_MISFIRES.r) (pa_cons (pe_un un_neg pe_int) (pa_cons (pe_un un_neg pe_int) pa_nil)))) (gN 2 sc_SureRoutes_most_misfires.nd) (pss_one (ps_if (pt_val (pe_meth (pv 0) T.routes.SureRoutes.C T.routes.SureRoutes_is_sure.m (ok_SureRoutes_is_sure T) (hr.mono (by decide)) T.routes.SureRoutes_is_sure.b .nil pass0 (pa_cons (pv 1) (pa_cons (pe_glob rfl T.routes.MOST_TICKS.g T.routes.MOST_TICKS.r) (pa_cons (pv 2) pa_nil))))) (pss_one (ps_ret (pv 2))) pss_nil)))
  (pss_one (ps_ret pe_non))), ?_⟩
 try dsimp only [cxOf]
 walk_at "go"
 refine ⟨_, _, _, 8, rfl, rng7, ?_⟩
 refine for_rangeC (fun i σ' H' => H' = H ∧ ∃ v, σ' = [some (.ref p), some (.ref a), v] ∧ mostP m s = Sr41Neutral.mostFrom (fun c => hasS m (levF m 250 c) s) (8 - i)) ⟨rfl, _, rfl, rfl⟩ ?_ ?_
 · rintro i σ' H' hi ⟨rfl, v, rfl, hm⟩
   have e : (7 : Int) + (i : Nat) * (-1) = ((7 - i : Nat) : Int) := by omega
   have e8 : 8 - i = (7 - i) + 1 := by omega
   rw [e]
   rw [e8] at hm
   unfold Sr41Neutral.mostFrom at hm
   walk_at "go"
   refine SureIs.meth hS rfl ?_
   walk_at "go"
   refine ⟨p, a, f, d, lv, f', hl, m, n, 250, 7 - i, s, rfl, hS, ha, hs, by decide, by omega, ?_⟩
   walk_at "go"
   refine ite2 (fun hc => ?_) (fun hc => ?_)
   · walk_at "go"
     rw [if_pos hc] at hm
     rw [hm] at k
     exact k
   · walk_at "go"
     rw [if_neg hc] at hm
     refine ⟨rfl, _, rfl, ?_⟩
     rw [hm]
     congr 1
     omega
 · rintro σ' H' ⟨rfl, v, rfl, hm⟩
   walk_at "go"
   have hm : mostP m s = none := hm
   rw [hm] at k
   exact k
theorem sc_SureRoutes_is_sure_by : FnScope ["self", "state", "burn", "ticks", "misfires", "come"] ["self", "state", "burn", "ticks", "misfires"] (defScope (inClass (top 62) 4)) := fS
def sp_SureRoutes_is_sure_by (T : Txt K mg) : Sp := fun vs H Q _ => ∃ (p a ab f d lv f' hl : Addr) (m : Sr40.Map_) (n t c : Nat) (s : Sr40.State) (b : Sr40.Burn), vs = [.ref p, .ref a, .ref ab, .int (t : Int), .int (c : Int)] ∧ SureIs T H p m f d lv f' hl n ∧ StT K H a s ∧ BT K H ab b ∧ InFd m s ∧ Slow s ∧ b ∈ BUR ∧ isSp (s.vx + b.a) (s.vy + b.b) = true ∧ 1 ≤ t ∧ t ≤ 250 ∧ c < 8 ∧ ∀ H', Same H H' → Q (.bl (sureBy m s t c b)) H'
theorem ok_SureRoutes_is_sure_by (T : Txt K mg) : FnOk P w K mg base CX0 4 T.routes.SureRoutes_is_sure_by.a T.routes.SureRoutes_is_sure_by.fd ["self", "state", "burn", "ticks", "misfires"] (sp_SureRoutes_is_sure_by T) := by
 refine T.routes.SureRoutes_is_sure_by.F.ok sc_SureRoutes_is_sure_by (fun _ _ _ _ h => by obtain ⟨p, a, ab, f, d, lv, f', hl, m, n, t, c, s, b, rfl, _⟩ := h; rfl) (fun cdv A outer s H vs Q E hr h => ?_)
 obtain ⟨p, a, ab, f, d, lv, f', hl, m, n, t, c, s, b, rfl, hS, ha, hb, hf, hs, hB, hsp, h1, ht, hc, k⟩ := h
 refine ⟨_, (pss_cons (ps_if (pt_not (pt_val (pe_meth (fldK K (pv 0) rfl) T.drift.Drifts.C T.drift.Drifts_is_free.m (ok_Drifts_is_free T) (hr.mono (by decide)) T.drift.Drifts_is_free.b .nil pass0 (pa_cons (pv 1) (pa_cons (pv 2) pa_nil))))) (pss_one (ps_ret pe_bl)) pss_nil)
  (pss_cons (ps_if (pt_not (pt_val (pe_meth (pv 0) T.routes.SureRoutes.C T.routes.SureRoutes_is_sure.m (ok_SureRoutes_is_sure T) (hr.mono (by decide)) T.routes.SureRoutes_is_sure.b .nil pass0 (pa_cons (cG T.motion.behind_tick (ok_behind_tick T) hr (pa_cons (pv 1) (pa_cons (pv 2) pa_nil))) (pa_cons (pe_op op_sub (pv 3) pe_int) (pa_cons (pv 4) pa_nil)))))) (pss_one (ps_ret pe_bl)) pss_nil)
  (pss_cons (ps_if (pt_cmpR op_eq (pv 4) pe_int (nomark _)) (pss_one (ps_ret pe_bl)) pss_nil)
  (pss_one (ps_ret (pe_callB (allK K rfl) rfl T.n_all boot_all (pa_cons (pe_lc rfl sc_SureRoutes_is_sure_by.nd (ilK K (cG T.motion.less_than (ok_less_than T) hr (pa_cons (pv 2) pa_nil))) (own := [("come", 5)]) (blkOk_by (by show blkC ["self", "state", "burn", "ticks", "misfires", "come"] (defScope (inClass (top 62) 4)) _ _ = true; decide +kernel)) (fun _ _ _ _ _ => (gN 5 sc_SureRoutes_is_sure_by.nd)) (fun _ _ _ _ _ => pts_nil) (fun _ _ _ _ _ => (pe_meth (pv 0) T.routes.SureRoutes.C T.routes.SureRoutes_is_sure.m (ok_SureRoutes_is_sure T) (hr.mono (by decide)) T.routes.SureRoutes_is_sure.b .nil pass0 (pa_cons (cG T.motion.behind_tick (ok_behind_tick T) hr (pa_cons (pv 1) (pa_cons (pv 5) pa_nil))) (pa_cons (pe_op op_sub (pv 3) pe_int) (pa_cons (pe_op op_sub (pv 4) pe_int) pa_nil)))))) pa_nil))))))), ?_⟩
 try dsimp only [cxOf]
 have et : (t : Int) - 1 = ((t - 1 : Nat) : Int) := by omega
 walk_at "go"
 refine rs_drifts hS ?_
 refine DriftsIs.meth hS.drifts rfl ?_
 walk_at "go"
 refine ⟨d, a, ab, f', hl, m, s, b, rfl, hS.drifts, ha, hb, hf, hs, hB, hsp, fun H1 s1 => ?_⟩
 walk_at "go"
 refine ite2 (fun q1 => ?_) (fun q1 => ?_)
 · walk_at "go"
   refine qbl (k H1 s1) ?_
   rw [Bool.not_eq_true'] at q1
   unfold sureBy
   rw [q1]
   rfl
 · have q1 : freeP m s b = true := by simpa using q1
   walk_at "go"
   refine SureIs.meth (hS.mono s1) rfl ?_
   walk_at "go"
   refine ⟨a, ab, s.x, s.y, s.vx, s.vy, b.a, b.b, rfl, s1.tup ha, s1.tup hb, fun u H2 hu e2 => ?_⟩
   have s12 : Same H H2 := s1.trans (by rw [e2]; exact Same.new hu)
   have hu2 : StT K H2 u (af s b) := SqT.of (by rw [e2]; exact upd_same)
   walk_at "go"
   rw [et]
   refine ⟨p, u, f, d, lv, f', hl, m, n, t - 1, c, af s b, rfl, hS.mono s12, hu2, slow_af hsp, by omega, hc, ?_⟩
   walk_at "go"
   refine ite2 (fun q2 => ?_) (fun q2 => ?_)
   · walk_at "go"
     refine qbl (k H2 s12) ?_
     rw [Bool.not_eq_true'] at q2
     unfold sureBy
     rw [q1, q2]
     rfl
   · have q2 : hasS m (levF m (t - 1) c) (af s b) = true := by simpa using q2
     walk_at "go"
     refine ite2 (fun q3 => ?_) (fun q3 => ?_)
     · have q3 : c = 0 := by
         have := of_decide_eq_true q3
         omega
       walk_at "go"
       refine qbl (k H2 s12) ?_
       unfold sureBy
       rw [q1, q2, decide_eq_true q3]
       rfl
     · have q3 : c ≠ 0 := fun e => q3 (decide_eq_true (by rw [e]; rfl))
       have ec : (c : Int) - 1 = ((c - 1 : Nat) : Int) := by omega
       walk_at "go"
       refine ⟨ab, b, rfl, s12.tup hb, fun ll H3 xs s3 e3 _ hxs => ?_⟩
       have s13 := s12.trans s3
       refine ⟨_, rfl, ⟨_, SqL.of e3⟩, ?_⟩
       intro D hD0
       refine lc_list (K := K) (xs := xs) (fun i H' => Same H3 H' ∧ H' D = some (.lst ((((lessT b).take i).map fun o => hasS m (levF m (t - 1) (c - 1)) (af s o)).map V.bl))) ⟨Same.new hD0, upd_same⟩ (fun i H' _ q => SqL.of (q.1 _ _ e3)) ?_ ?_
       · rintro i v H' hi ⟨s4, hy⟩
         obtain ⟨o, hoi, ao, rfl, hao⟩ := paired_get' hxs hi
         have hom : o ∈ lessT b := List.mem_of_getElem? hoi
         have hosp := outs_slow (sp_of hs) hsp ((lessT_outs hB).mp hom).1
         have s14 := s13.trans s4
         walk_at "go"
         refine ⟨rfl, ?_⟩
         walk_at "go"
         refine SureIs.meth (hS.mono s14) rfl ?_
         walk_at "go"
         refine ⟨a, ao, s.x, s.y, s.vx, s.vy, o.a, o.b, rfl, s14.tup ha, s4.tup hao, fun u5 H5 hu5 e5 => ?_⟩
         have s45 : Same H' H5 := by rw [e5]; exact Same.new hu5
         have hu6 : StT K H5 u5 (af s o) := SqT.of (by rw [e5]; exact upd_same)
         walk_at "go"
         rw [et, ec]
         refine ⟨p, u5, f, d, lv, f', hl, m, n, t - 1, c - 1, af s o, rfl, hS.mono (s14.trans s45), hu6, slow_af hosp, by omega, by omega, ?_⟩
         refine ⟨_, s45 _ _ hy, small100 ?_, (s4.trans s45).set hD0, ?_⟩
         · rw [List.length_map, List.length_map]
           have hz : (lessT b).length ≤ 9 := List.length_filter_le _ _
           exact Nat.le_trans (List.length_take_le' _ _) (by omega)
         · rw [upd_same, take_snoc hoi, List.map_append, List.map_append]
           rfl
       · rintro H' ⟨s4, hy⟩
         have e : (lessT b).take xs.length = lessT b := by
           rw [Paired.length hxs, List.take_length]
         rw [e] at hy
         refine ⟨D, _, rfl, SqL.of hy, ?_⟩
         refine qbl (k H' (s13.trans s4)) ?_
         unfold sureBy
         rw [q1, q2, decide_eq_false q3, List.all_map]
         rfl
end
section
variable {P : Program} {w : World} {K : PySem.W.Frag} {mg : Str → Option Value} {base : Heap}
theorem head_of {K : PySem.W.Frag} {H : Hp} {xs : List V} {bs : List Sr40.Burn} {b : Sr40.Burn} (h : BVs K H xs bs) (e : bs.head? = some b) : ∃ a, atI xs 0 = some (V.ref a) ∧ BT K H a b := by
 cases h with
 | nil => cases e
 | cons q r =>
   cases e
   obtain ⟨a, rfl, q⟩ := q
   exact ⟨a, atI_nat (j := 0) rfl, q⟩
theorem sc_SureRoutes_chosen_burn : FnScope ["self", "state", "misfires", "ticks", "good", "burn"] ["self", "state", "misfires"] (defScope (inClass (top 62) 3)) := fS
def sp_SureRoutes_chosen_burn (T : Txt K mg) : Sp := fun vs H Q _ => ∃ (p a f d lv f' hl : Addr) (m : Sr40.Map_) (n t0 c : Nat) (s : Sr40.State) (b : Sr40.Burn), vs = [.ref p, .ref a, .int (c : Int)] ∧ SureIs T H p m f d lv f' hl n ∧ StT K H a s ∧ InFd m s ∧ Slow s ∧ c < 8 ∧ SureBurn m s c t0 b ∧ ∀ ab H', Same H H' → BT K H' ab b → Q (.ref ab) H'
theorem ok_SureRoutes_chosen_burn (T : Txt K mg) : FnOk P w K mg base CX0 5 T.routes.SureRoutes_chosen_burn.a T.routes.SureRoutes_chosen_burn.fd ["self", "state", "misfires"] (sp_SureRoutes_chosen_burn T) := by
 refine T.routes.SureRoutes_chosen_burn.F.ok sc_SureRoutes_chosen_burn (fun _ _ _ _ h => by obtain ⟨p, a, f, d, lv, f', hl, m, n, t0, c, s, b, rfl, _⟩ := h; rfl) (fun cdv A outer s H vs Q E hr h => ?_)
 obtain ⟨p, a, f, d, lv, f', hl, m, n, t0, c, s, b, rfl, hS, ha, hf, hs, hc, hB, k⟩ := h
 refine ⟨_, (pss_cons (sA 3 sc_SureRoutes_chosen_burn.nd pe_int)
  (pss_cons (ps_while PassesOwn.never (pt_not (pt_val (pe_meth (pv 0) T.routes.SureRoutes.C T.routes.SureRoutes_is_sure.m (ok_SureRoutes_is_sure T) (hr.mono (by decide)) T.routes.SureRoutes_is_sure.b .nil pass0 (pa_cons (pv 1) (pa_cons (pv 3) (pa_cons (pv 2) pa_nil)))))) (pss_one (ps_aug (i := 3) sc_SureRoutes_chosen_burn.nd rfl (by first | exact Or.inl rfl | exact Or.inr rfl) pe_int ip_add)))
  (pss_cons (ps_setLc (i := 4) rfl sc_SureRoutes_chosen_burn.nd rfl rfl (sw_true rfl rfl rfl rfl) (ilK K (cG T.motion.burns_at (ok_burns_at T) hr (pa_cons (xT K (pv 1) pe_int) (pa_cons (xT K (pv 1) pe_int) pa_nil)))) (own := [("burn", 5)]) (blkOk_by (by show blkC ["self", "state", "misfires", "ticks", "good", "burn"] (defScope (inClass (top 62) 3)) _ _ = true; decide +kernel)) (fun _ _ _ _ _ => (gN 5 sc_SureRoutes_chosen_burn.nd)) (fun _ _ _ _ _ => (pts_one (pt_val (pe_meth (pv 0) T.routes.SureRoutes.C T.routes.SureRoutes_is_sure_by.m (ok_SureRoutes_is_sure_by T) (hr.mono (by decide)) T.routes.SureRoutes_is_sure_by.b .nil pass0 (pa_cons (pv 1) (pa_cons (pv 5) (pa_cons (pv 3) (pa_cons (pv 2) pa_nil)))))))) (fun _ _ _ _ _ => (pv 5)))
  (pss_one (ps_ret (xL K (pv 4) pe_int)))))), ?_⟩
 try dsimp only [cxOf]
 have t1 := hB.one
 have t250 := hB.most
 walk_at "go"
 refine w_while (fun n0 σ' H' => H' = H ∧ ∃ t : Nat, n0 = t0 - t ∧ 1 ≤ t ∧ t ≤ t0 ∧ σ' = [some (.ref p), some (.ref a), some (.int (c : Int)), some (.int (t : Int)), none, none]) (m0 := t0 - 1) ⟨rfl, 1, rfl, Nat.le_refl _, t1, rfl⟩ ?_
 rintro n0 σ' H' ⟨rfl, t, rfl, ht1, ht, rfl⟩
 walk_at "go"
 refine SureIs.meth hS rfl ?_
 walk_at "go"
 refine ⟨p, a, f, d, lv, f', hl, m, n, t, c, s, rfl, hS, ha, hs, by omega, hc, ?_⟩
 walk_at "go"
 refine ite2 (fun q1 => ?_) (fun q1 => ?_)
 · rw [Bool.not_eq_true'] at q1
   have hne : t ≠ t0 := fun e => by
     rw [e] at q1
     have := hB.now
     rw [q1] at this
     cases this
   refine ⟨fun σ' H'' => H'' = H' ∧ σ' = [some (.ref p), some (.ref a), some (.int (c : Int)), some (.int ((t + 1 : Nat) : Int)), none, none], ?_, ?_⟩
   · rintro σ' H'' ⟨rfl, rfl⟩
     exact ⟨t0 - (t + 1), by omega, rfl, t + 1, rfl, by omega, by omega, rfl⟩
   · refine ⟨_, rfl, ?_⟩
     walk_at "go"
     refine ⟨_, _, rfl, rfl, ?_⟩
     exact ⟨rfl, rfl⟩
 · have q1 : hasS m (levF m t c) s = true := by simpa using q1
   have e : t = t0 := by
     rcases Nat.lt_or_ge t t0 with z | z
     · have := hB.least t z
       rw [q1] at this
       cases this
     · omega
   subst e
   walk_at "go"
   have ha0 := ha
   unfold StT at ha0
   walk_at "go"
   refine ⟨_, _, rfl, fun ll H1 bs s1 e1 _ hbs => ?_⟩
   refine ⟨_, rfl, ⟨_, SqL.of e1⟩, ?_⟩
   intro D hD
   refine lc_list (K := K) (xs := bs) (fun i H2 => Same H1 H2 ∧ ∃ ys, H2 D = some (.lst ys) ∧ BVs K H2 ys (((burnsAt s.vx s.vy).take i).filter (sureBy m s t c))) ⟨Same.new hD, [], upd_same, .nil⟩ (fun i H2 _ q => SqL.of (q.1 _ _ e1)) ?_ ?_
   · rintro i v H2 hi ⟨s2, ys, hy, hys⟩
     obtain ⟨x, hx, ax, rfl, hax⟩ := paired_get' hbs hi
     obtain ⟨hxB, hxsp⟩ := List.mem_filter.mp (List.mem_of_getElem? hx)
     have hlen : ys.length ≤ 9 := by
       rw [Paired.length hys]
       exact Nat.le_trans (List.length_filter_le _ _) (Nat.le_trans (List.length_take_le' _ _) (List.length_filter_le _ _))
     have s12 := s1.trans s2
     walk_at "go"
     refine ⟨rfl, ?_⟩
     walk_at "go"
     refine SureIs.meth (hS.mono s12) rfl ?_
     walk_at "go"
     refine ⟨p, a, ax, f, d, lv, f', hl, m, n, t, c, s, x, rfl, hS.mono s12, s12.tup ha, s2.tup hax, hf, hs, hxB, hxsp, ht1, t250, hc, fun H3 s3 => ?_⟩
     walk_at "go"
     refine ite2 (fun q2 => ?_) (fun q2 => ?_)
     · walk_at "go"
       refine ⟨ys, s3 _ _ hy, small100 (by omega), (s2.trans s3).set hD, _, upd_same, ?_⟩
       rw [filter_snoc hx, if_pos q2]
       exact ((hys.mono s3).updL (s3 _ _ hy)).snoc (BV.updL (BV.mono (s2.trans s3) ⟨ax, rfl, hax⟩) (s3 _ _ hy))
     · refine ⟨s2.trans s3, ys, s3 _ _ hy, ?_⟩
       rw [filter_snoc hx, if_neg q2, List.append_nil]
       exact hys.mono s3
   · rintro H2 ⟨s2, ys, hy, hys⟩
     have e : (burnsAt s.vx s.vy).take bs.length = burnsAt s.vx s.vy := by
       rw [Paired.length hbs, List.take_length]
     rw [e] at hys
     obtain ⟨ab, hat, hab⟩ := head_of hys hB.pick
     have hysq := SqL.of (K := K) hy
     walk_at "go"
     refine w_ixL hysq hat ?_
     exact k ab H2 (s1.trans s2) hab
end
section
variable {P : Program} {w : World} {K : PySem.W.Frag} {mg : Str → Option Value} {base : Heap}
theorem sc_AwayRoutes_is_away : FnScope ["self", "state", "ticks"] ["self", "state", "ticks"] (defScope (inClass (top 63) 1)) := fS
def sp_AwayRoutes_is_away (T : Txt K mg) : Sp := fun vs H Q _ => ∃ (p a f d lv f' hl : Addr) (m : Sr40.Map_) (n t : Nat) (s : Sr40.State), vs = [.ref p, .ref a, .int (t : Int)] ∧ AwayIs T H p m f d lv f' hl n ∧ StT K H a s ∧ Slow s ∧ t ≤ 250 ∧ Q (.bl (awS m t s)) H
theorem ok_AwayRoutes_is_away (T : Txt K mg) : FnOk P w K mg base CX0 3 T.routes.AwayRoutes_is_away.a T.routes.AwayRoutes_is_away.fd ["self", "state", "ticks"] (sp_AwayRoutes_is_away T) := by
 refine T.routes.AwayRoutes_is_away.F.ok sc_AwayRoutes_is_away (fun _ _ _ _ h => by obtain ⟨p, a, f, d, lv, f', hl, m, n, t, s, rfl, _⟩ := h; rfl) (fun cdv A outer s H vs Q E hr h => ?_)
 obtain ⟨p, a, f, d, lv, f', hl, m, n, t, s, rfl, hS, ha, hs, ht, k⟩ := h
 refine ⟨_, (pss_cons (ps_if (pt_not (pt_val (pe_meth (fldK K (pv 0) rfl) T.places.Field.C T.places.Field_has.m (ok_Field_has T) (hr.mono (by decide)) T.places.Field_has.b .nil pass0 (pa_cons (xT K (pv 1) pe_int) (pa_cons (xT K (pv 1) pe_int) pa_nil))))) (pss_one (ps_ret pe_bl)) pss_nil)
  (pss_one (ps_ret (cG T.routes.has_state (ok_has_state T) hr (pa_cons (fldK K (pv 0) rfl) (pa_cons (xL K (fldK K (pv 0) rfl) (pe_callB (cm_min rfl) rfl T.n_min boot_min (pa_cons (pv 2) (pa_cons (pe_op op_sub (pe_callB (lenK K) rfl T.n_len boot_len (pa_cons (fldK K (pv 0) rfl) pa_nil)) pe_int) pa_nil)))) (pa_cons (pv 1) pa_nil))))))), ?_⟩
 try dsimp only [cxOf]
 obtain ⟨xs, hxs, hps⟩ := hS.levels
 have hlen : xs.length = n + 1 := by rw [Paired.length hps, List.length_range]
 have hsq := SqL.of (K := K) hxs
 obtain ⟨v, hv, l, rfl, _, hl1⟩ := paired_get hps (show (List.range (n + 1))[min t n]? = some (min t n) from List.getElem?_range (by omega))
 have hF := hS.field
 have ha0 := ha
 unfold StT at ha0
 walk_at "go"
 refine ra_field hS ?_
 walk_at "go"
 refine ⟨f, m.w, m.h, _, _, rfl, hS.fp, ?_⟩
 walk_at "go"
 refine ite2 (fun q1 => ?_) (fun q1 => ?_)
 · walk_at "go"
   refine qbl k ?_
   rw [Bool.not_eq_true'] at q1
   unfold awS
   rw [inField_eq, q1]
   rfl
 · have q1 : inFld m.w m.h s.x s.y = true := by simpa using q1
   walk_at "go"
   refine ra_field hS ?_
   walk_at "go"
   refine ra_levels hS ?_
   walk_at "go"
   refine ra_levels hS ?_
   walk_at "go"
   rw [hlen]
   refine w_ixL hsq (at_of (j := min t n) (by omega) hv) ?_
   walk_at "go"
   refine ⟨f, l, a, m, _, s, rfl, hS.field, hS.fp, SqL.of hl1, ha, hs, ?_⟩
   refine qbl k ?_
   unfold awS
   rw [inField_eq, q1]
   unfold hasS
   rw [hS.stops.at_ ht (numV_lt (sp_of hs))]
   rfl
theorem sc_AwayRoutes_is_away_by : FnScope ["self", "state", "burn", "ticks"] ["self", "state", "burn", "ticks"] (defScope (inClass (top 63) 3)) := fS
def sp_AwayRoutes_is_away_by (T : Txt K mg) : Sp := fun vs H Q _ => ∃ (p a ab f d lv f' hl : Addr) (m : Sr40.Map_) (n t : Nat) (s : Sr40.State) (b : Sr40.Burn), vs = [.ref p, .ref a, .ref ab, .int (t : Int)] ∧ AwayIs T H p m f d lv f' hl n ∧ StT K H a s ∧ BT K H ab b ∧ InFd m s ∧ Slow s ∧ b ∈ BUR ∧ isSp (s.vx + b.a) (s.vy + b.b) = true ∧ 1 ≤ t ∧ t ≤ 250 ∧ ∀ H', Same H H' → Q (.bl (awayBy m s t b)) H'
theorem ok_AwayRoutes_is_away_by (T : Txt K mg) : FnOk P w K mg base CX0 4 T.routes.AwayRoutes_is_away_by.a T.routes.AwayRoutes_is_away_by.fd ["self", "state", "burn", "ticks"] (sp_AwayRoutes_is_away_by T) := by
 refine T.routes.AwayRoutes_is_away_by.F.ok sc_AwayRoutes_is_away_by (fun _ _ _ _ h => by obtain ⟨p, a, ab, f, d, lv, f', hl, m, n, t, s, b, rfl, _⟩ := h; rfl) (fun cdv A outer s H vs Q E hr h => ?_)
 obtain ⟨p, a, ab, f, d, lv, f', hl, m, n, t, s, b, rfl, hS, ha, hb, hf, hs, hB, hsp, h1, ht, k⟩ := h
 refine ⟨_, (pss_one (ps_ret (pe_and (pe_meth (fldK K (pv 0) rfl) T.drift.Drifts.C T.drift.Drifts_is_free.m (ok_Drifts_is_free T) (hr.mono (by decide)) T.drift.Drifts_is_free.b .nil pass0 (pa_cons (pv 1) (pa_cons (pv 2) pa_nil))) (pe_one (pe_meth (pv 0) T.routes.AwayRoutes.C T.routes.AwayRoutes_is_away.m (ok_AwayRoutes_is_away T) (hr.mono (by decide)) T.routes.AwayRoutes_is_away.b .nil pass0 (pa_cons (cG T.motion.behind_tick (ok_behind_tick T) hr (pa_cons (pv 1) (pa_cons (pv 2) pa_nil))) (pa_cons (pe_op op_sub (pv 3) pe_int) pa_nil))))))), ?_⟩
 try dsimp only [cxOf]
 have et : (t : Int) - 1 = ((t - 1 : Nat) : Int) := by omega
 walk_at "go"
 refine ra_drifts hS ?_
 refine DriftsIs.meth hS.drifts rfl ?_
 walk_at "go"
 refine ⟨d, a, ab, f', hl, m, s, b, rfl, hS.drifts, ha, hb, hf, hs, hB, hsp, fun H1 s1 => ?_⟩
 walk_at "go"
 refine ite2 (fun q1 => ?_) (fun q1 => ?_)
 · walk_at "go"
   refine AwayIs.meth (hS.mono s1) rfl ?_
   walk_at "go"
   refine ⟨a, ab, s.x, s.y, s.vx, s.vy, b.a, b.b, rfl, s1.tup ha, s1.tup hb, fun u H2 hu e2 => ?_⟩
   have s12 : Same H H2 := s1.trans (by rw [e2]; exact Same.new hu)
   have hu2 : StT K H2 u (af s b) := SqT.of (by rw [e2]; exact upd_same)
   walk_at "go"
   rw [et]
   refine ⟨p, u, f, d, lv, f', hl, m, n, t - 1, af s b, rfl, hS.mono s12, hu2, slow_af hsp, by omega, ?_⟩
   refine qbl (k H2 s12) ?_
   unfold awayBy
   rw [q1]
   rfl
 · refine qbl (k H1 s1) ?_
   rw [Bool.not_eq_true] at q1
   unfold awayBy
   rw [q1]
   rfl
theorem sc_AwayRoutes_chosen_burn : FnScope ["self", "state", "ticks", "good", "burn"] ["self", "state"] (defScope (inClass (top 63) 2)) := fS
def sp_AwayRoutes_chosen_burn (T : Txt K mg) : Sp := fun vs H Q _ => ∃ (p a f d lv f' hl : Addr) (m : Sr40.Map_) (n t0 : Nat) (s : Sr40.State) (b : Sr40.Burn), vs = [.ref p, .ref a] ∧ AwayIs T H p m f d lv f' hl n ∧ StT K H a s ∧ InFd m s ∧ Slow s ∧ AwayBurn m s t0 b ∧ ∀ ab H', Same H H' → BT K H' ab b → Q (.ref ab) H'
theorem ok_AwayRoutes_chosen_burn (T : Txt K mg) : FnOk P w K mg base CX0 5 T.routes.AwayRoutes_chosen_burn.a T.routes.AwayRoutes_chosen_burn.fd ["self", "state"] (sp_AwayRoutes_chosen_burn T) := by
 refine T.routes.AwayRoutes_chosen_burn.F.ok sc_AwayRoutes_chosen_burn (fun _ _ _ _ h => by obtain ⟨p, a, f, d, lv, f', hl, m, n, t0, s, b, rfl, _⟩ := h; rfl) (fun cdv A outer s H vs Q E hr h => ?_)
 obtain ⟨p, a, f, d, lv, f', hl, m, n, t0, s, b, rfl, hS, ha, hf, hs, hB, k⟩ := h
 refine ⟨_, (pss_cons (sA 2 sc_AwayRoutes_chosen_burn.nd pe_int)
  (pss_cons (ps_while PassesOwn.never (pt_not (pt_val (pe_meth (pv 0) T.routes.AwayRoutes.C T.routes.AwayRoutes_is_away.m (ok_AwayRoutes_is_away T) (hr.mono (by decide)) T.routes.AwayRoutes_is_away.b .nil pass0 (pa_cons (pv 1) (pa_cons (pv 2) pa_nil))))) (pss_one (ps_aug (i := 2) sc_AwayRoutes_chosen_burn.nd rfl (by first | exact Or.inl rfl | exact Or.inr rfl) pe_int ip_add)))
  (pss_cons (ps_setLc (i := 3) rfl sc_AwayRoutes_chosen_burn.nd rfl rfl (sw_true rfl rfl rfl rfl) (ilK K (cG T.motion.burns_at (ok_burns_at T) hr (pa_cons (xT K (pv 1) pe_int) (pa_cons (xT K (pv 1) pe_int) pa_nil)))) (own := [("burn", 4)]) (blkOk_by (by show blkC ["self", "state", "ticks", "good", "burn"] (defScope (inClass (top 63) 2)) _ _ = true; decide +kernel)) (fun _ _ _ _ _ => (gN 4 sc_AwayRoutes_chosen_burn.nd)) (fun _ _ _ _ _ => (pts_one (pt_val (pe_meth (pv 0) T.routes.AwayRoutes.C T.routes.AwayRoutes_is_away_by.m (ok_AwayRoutes_is_away_by T) (hr.mono (by decide)) T.routes.AwayRoutes_is_away_by.b .nil pass0 (pa_cons (pv 1) (pa_cons (pv 4) (pa_cons (pv 2) pa_nil))))))) (fun _ _ _ _ _ => (pv 4)))
  (pss_one (ps_ret (xL K (pv 3) pe_int)))))), ?_⟩
 try dsimp only [cxOf]
 have t1 := hB.one
 have t250 := hB.most
 walk_at "go"
 refine w_while (fun n0 σ' H' => H' = H ∧ ∃ t : Nat, n0 = t0 - t ∧ 1 ≤ t ∧ t ≤ t0 ∧ σ' = [some (.ref p), some (.ref a), some (.int (t : Int)), none, none]) (m0 := t0 - 1) ⟨rfl, 1, rfl, Nat.le_refl _, t1, rfl⟩ ?_
 rintro n0 σ' H' ⟨rfl, t, rfl, ht1, ht, rfl⟩
 walk_at "go"
 refine AwayIs.meth hS rfl ?_
 walk_at "go"
 refine ⟨p, a, f, d, lv, f', hl, m, n, t, s, rfl, hS, ha, hs, by omega, ?_⟩
 walk_at "go"
 refine ite2 (fun q1 => ?_) (fun q1 => ?_)
 · rw [Bool.not_eq_true'] at q1
   have hne : t ≠ t0 := fun e => by
     rw [e] at q1
     have := hB.now
     rw [q1] at this
     cases this
   refine ⟨fun σ' H'' => H'' = H' ∧ σ' = [some (.ref p), some (.ref a), some (.int ((t + 1 : Nat) : Int)), none, none], ?_, ?_⟩
   · rintro σ' H'' ⟨rfl, rfl⟩
     exact ⟨t0 - (t + 1), by omega, rfl, t + 1, rfl, by omega, by omega, rfl⟩
   · refine ⟨_, rfl, ?_⟩
     walk_at "go"
     refine ⟨_, _, rfl, rfl, ?_⟩
     exact ⟨rfl, rfl⟩
 · have q1 : awS m t s = true := by simpa using q1
   have e : t = t0 := by
     rcases Nat.lt_or_ge t t0 with z | z
     · have := hB.least t z
       rw [q1] at this
       cases this
     · omega
   subst e
   walk_at "go"
   have ha0 := ha
   unfold StT at ha0
   walk_at "go"
   refine ⟨_, _, rfl, fun ll H1 bs s1 e1 _ hbs => ?_⟩
   refine ⟨_, rfl, ⟨_, SqL.of e1⟩, ?_⟩
   intro D hD
   refine lc_list (K := K) (xs := bs) (fun i H2 => Same H1 H2 ∧ ∃ ys, H2 D = some (.lst ys) ∧ BVs K H2 ys (((burnsAt s.vx s.vy).take i).filter (awayBy m s t))) ⟨Same.new hD, [], upd_same, .nil⟩ (fun i H2 _ q => SqL.of (q.1 _ _ e1)) ?_ ?_
   · rintro i v H2 hi ⟨s2, ys, hy, hys⟩
     obtain ⟨x, hx, ax, rfl, hax⟩ := paired_get' hbs hi
     obtain ⟨hxB, hxsp⟩ := List.mem_filter.mp (List.mem_of_getElem? hx)
     have hlen : ys.length ≤ 9 := by
       rw [Paired.length hys]
       exact Nat.le_trans (List.length_filter_le _ _) (Nat.le_trans (List.length_take_le' _ _) (List.length_filter_le _ _))
     have s12 := s1.trans s2
     walk_at "go"
     refine ⟨rfl, ?_⟩
     walk_at "go"
     refine AwayIs.meth (hS.mono s12) rfl ?_
     walk_at "go"
     refine ⟨p, a, ax, f, d, lv, f', hl, m, n, t, s, x, rfl, hS.mono s12, s12.tup ha, s2.tup hax, hf, hs, hxB, hxsp, ht1, t250, fun H3 s3 => ?_⟩
     walk_at "go"
     refine ite2 (fun q2 => ?_) (fun q2 => ?_)
     · walk_at "go"
       refine ⟨ys, s3 _ _ hy, small100 (by omega), (s2.trans s3).set hD, _, upd_same, ?_⟩
       rw [filter_snoc hx, if_pos q2]
       exact ((hys.mono s3).updL (s3 _ _ hy)).snoc (BV.updL (BV.mono (s2.trans s3) ⟨ax, rfl, hax⟩) (s3 _ _ hy))
     · refine ⟨s2.trans s3, ys, s3 _ _ hy, ?_⟩
       rw [filter_snoc hx, if_neg q2, List.append_nil]
       exact hys.mono s3
   · rintro H2 ⟨s2, ys, hy, hys⟩
     have e : (burnsAt s.vx s.vy).take bs.length = burnsAt s.vx s.vy := by
       rw [Paired.length hbs, List.take_length]
     rw [e] at hys
     obtain ⟨ab, hat, hab⟩ := head_of hys hB.pick
     have hysq := SqL.of (K := K) hy
     walk_at "go"
     refine w_ixL hysq hat ?_
     exact k ab H2 (s1.trans s2) hab
end
section
variable {P : Program} {w : World} {K : PySem.W.Frag} {mg : Str → Option Value} {base : Heap}
def lowV (n c : Nat) : List V := (List.range c).map fun i => V.int ((n / 256 ^ i % 256 : Nat) : Int)
theorem lowV_len (n c : Nat) : (lowV n c).length = c := by unfold lowV; rw [List.length_map, List.length_range]
theorem sc_low_first : FnScope ["number", "count", "rest", "row", "place"] ["number", "count"] (defScope (top 53)) := fS
def sp_low_first (K : PySem.W.Frag) : Sp := fun vs H Q _ => ∃ (n c : Nat), vs = [.int (n : Int), .int (c : Int)] ∧ c ≤ 10 ∧ ∀ p H', Same H H' → H p = none → H' p = some (.lst (lowV n c)) → Q (.ref p) H'
theorem ok_low_first (T : Txt K mg) : FnOk P w K mg base CX0 1 T.messages.low_first.a T.messages.low_first.fd ["number", "count"] (sp_low_first K) := by
 refine T.messages.low_first.F.ok sc_low_first (fun _ _ _ _ h => by obtain ⟨n, c, rfl, _⟩ := h; rfl) (fun cdv A outer s H vs Q E hr h => ?_)
 obtain ⟨n, c, rfl, hc, k⟩ := h
 refine ⟨_, (pss_cons (sA 2 sc_low_first.nd (pv 0))
  (pss_cons (sA 3 sc_low_first.nd (pe_lst pa_nil))
  (pss_cons (ps_for PassesOwn.never rfl (pi_range1 rfl T.n_range (pa_cons (pv 1) pa_nil)) (gN 4 sc_low_first.nd) (pss_cons (ps_expr (appK K (pe_bm PySem.F.plainAttrs_list PySem.F.slot_list_append PySem.F.type_list_append mt_append (pv 3) (pa_cons (pe_op op_mod (pv 2) pe_int) pa_nil))))
  (pss_one (sA 2 sc_low_first.nd (pe_op op_fdiv (pv 2) pe_int)))))
  (pss_one (ps_ret (pv 3)))))), ?_⟩
 try dsimp only [cxOf]
 walk_at "go"
 refine w_small (by show 0 ≤ 1000; decide) fun P hP => ?_
 have sP : Same H (upd H P (.lst [])) := Same.new hP
 have eP : upd H P (.lst []) P = some (.lst []) := upd_same
 generalize upd H P (.lst []) = H0 at sP eP ⊢
 walk_at "go"
 refine ⟨_, rfl, by omega, by omega, ?_⟩
 refine for_range (fun i σ' H' => Same H H' ∧ ∃ v, H' P = some (.lst (lowV n i)) ∧ σ' = [some (.int (n : Int)), some (.int (c : Int)), some (.int ((n / 256 ^ i : Nat) : Int)), some (.ref P), v]) ⟨sP, _, eP, by rw [Nat.pow_zero, Nat.div_one]; rfl⟩ ?_ ?_
 · rintro i σ' H' hi ⟨s1, v, hy, rfl⟩
   walk_at "go"
   refine w_bm ?_
   walk_at "go"
   refine ⟨.inl ⟨rfl, _, SqL.of hy⟩, ?_⟩
   walk_at "go"
   refine w_append hy (by rw [lowV_len]; omega) ?_
   walk_at "go"
   have e1 : ((n / 256 ^ i : Nat) : Int) / 256 = ((n / 256 ^ (i + 1) : Nat) : Int) := by
     rw [Nat.pow_succ, ← Nat.div_div_eq_div_mul]
     omega
   have e2 : ((n / 256 ^ i : Nat) : Int) % 256 = ((n / 256 ^ i % 256 : Nat) : Int) := by omega
   rw [e1, e2]
   refine ⟨s1.set hP, _, ?_, rfl⟩
   rw [upd_same]
   unfold lowV
   rw [List.range_succ, List.map_append]
   rfl
 · rintro σ' H' ⟨s1, v, hy, rfl⟩
   rw [Int.toNat_natCast] at hy
   walk_at "go"
   exact k P H' s1 hP hy
theorem sc_sent : FnScope ["message"] ["message"] (defScope (top 55)) := fS
def sp_sent (K : PySem.W.Frag) : Sp := fun vs H Q _ => ∃ (l : Addr) (xs : List V), vs = [.ref l] ∧ H l = some (.lst xs) ∧ xs.length ≤ 100 ∧ ∀ p H', Same H H' → H p = none → H' p = some (.lst (.int 1 :: xs)) → Q (.ref p) H'
theorem ok_sent (T : Txt K mg) : FnOk P w K mg base CX0 1 T.messages.sent.a T.messages.sent.fd ["message"] (sp_sent K) := by
 refine T.messages.sent.F.ok sc_sent (fun _ _ _ _ h => by obtain ⟨l, xs, rfl, _⟩ := h; rfl) (fun cdv A outer s H vs Q E hr h => ?_)
 obtain ⟨l, xs, rfl, hl, h100, k⟩ := h
 refine ⟨_, (pss_one (ps_ret (pe_op op_cat (pe_lst (pa_cons pe_int pa_nil)) (pv 0)))), ?_⟩
 try dsimp only [cxOf]
 walk_at "go"
 refine w_small (by show 1 ≤ 1000; decide) fun q hq => ?_
 walk_at "go"
 have s1 : Same H (upd H q (.lst [.int 1])) := Same.new hq
 refine w_cat upd_same (s1 _ _ hl) (by show 1 + xs.length ≤ 1000; omega) fun p hp => ?_
 exact k p _ (s1.trans (Same.new hp)) (s1.free hp) upd_same
end
section
section
variable {K : PySem.W.Frag} {mg : Str → Option Value}
def Small : HO → Prop
 | .ins _ _ fs => fs.length < 7
 | _ => True
def SameS (H H' : Hp) : Prop := ∀ b o, H b = some o → Small o → H' b = some o
theorem Same.s {H H' : Hp} (s : Same H H') : SameS H H' := fun b o e _ => s b o e
variable {H H' : Hp} (s : SameS H H')
include s
theorem SameS.tup {a : Addr} {xs : List V} (h : SqT K H a xs) : SqT K H' a xs := by
 rcases h with (h | ⟨o, h⟩) | h
 · exact .inl (.inl (s _ _ h trivial))
 · exact .inl (.inr ⟨o, s _ _ h trivial⟩)
 · exact .inr h
theorem SameS.seq {a : Addr} {xs : List V} (h : SqL K H a xs) : SqL K H' a xs := by
 rcases h with (h | ⟨o, h⟩) | h
 · exact .inl (.inl (s _ _ h trivial))
 · exact .inl (.inr ⟨o, s _ _ h trivial⟩)
 · exact .inr h
theorem SameS.lst {a : Addr} {xs : List V} (h : H a = some (.lst xs)) : H' a = some (.lst xs) := s _ _ h trivial
theorem SameS.field {T : Txt K mg} {f : Addr} {w h : Nat} (F : FieldAt T H f w h) : FieldAt T H' f w h := by
 obtain ⟨dx, e⟩ := F
 exact ⟨dx, s _ _ e (show 4 < 7 by decide)⟩
theorem SameS.boxes {l : Addr} {bs : List Sr39.Box} (h : BoxL K H l bs) : BoxL K H' l bs := by
 obtain ⟨xs, h1, h2⟩ := h
 exact ⟨xs, s.seq h1, Paired.imp' (fun _ _ ⟨a, e, q⟩ => ⟨a, e, s.tup q⟩) h2⟩
theorem SameS.chart {T : Txt K mg} {c : Addr} {m : Sr40.Map_} {f hd pt bx : Addr} (C : ChartIs T H c m f hd pt bx) : ChartIs T H' c m f hd pt bx := by
 obtain ⟨dx, e⟩ := C.at_
 have hF := s.field C.field
 exact ⟨⟨dx, s _ _ e (show 4 < 7 by decide)⟩, hF, hF.p C.fp.w32 C.fp.h32, s.tup C.head, s.tup C.port, s.boxes C.boxes⟩
theorem SameS.drifts {T : Txt K mg} {d : Addr} {m : Sr40.Map_} {f hl : Addr} (D : DriftsIs T H d m f hl) : DriftsIs T H' d m f hl := by
 obtain ⟨dx, e⟩ := D.at_
 have hF := s.field D.field
 exact ⟨⟨dx, s _ _ e (show 2 < 7 by decide)⟩, hF, hF.p D.fp.w32 D.fp.h32, s.lst D.harm⟩
theorem SameS.levels {N : Addr → Prop} {m : Sr40.Map_} {l : Addr} {n : Nat} (h : LevelsAt N H m l n) : LevelsAt N H' m l n := by
 obtain ⟨xs, h1, h2⟩ := h
 refine ⟨xs, s.lst h1, Paired.imp' (fun _ _ z => ?_) h2⟩
 obtain ⟨l, e, ys, q, r, t⟩ := z
 exact ⟨l, e, ys, q, s.lst r, Paired.imp' (fun _ _ ⟨a, e, q, r⟩ => ⟨a, e, q, s.lst r⟩) t⟩
theorem SameS.aways {m : Sr40.Map_} {l : Addr} {n : Nat} (h : AwaysAt H m l n) : AwaysAt H' m l n := by
 obtain ⟨xs, h1, h2⟩ := h
 exact ⟨xs, s.lst h1, Paired.imp' (fun _ _ ⟨l, e, q, r⟩ => ⟨l, e, q, s.lst r⟩) h2⟩
theorem SameS.sure {T : Txt K mg} {p : Addr} {m : Sr40.Map_} {f d lv f' hl : Addr} {n : Nat} (S : SureIs T H p m f d lv f' hl n) : SureIs T H' p m f d lv f' hl n := by
 obtain ⟨dx, e⟩ := S.at_
 have hF := s.field S.field
 exact ⟨⟨dx, s _ _ e (show 3 < 7 by decide)⟩, hF, hF.p S.fp.w32 S.fp.h32, s.drifts S.drifts, s.levels S.levels, S.stops⟩
theorem SameS.away {T : Txt K mg} {p : Addr} {m : Sr40.Map_} {f d lv f' hl : Addr} {n : Nat} (S : AwayIs T H p m f d lv f' hl n) : AwayIs T H' p m f d lv f' hl n := by
 obtain ⟨dx, e⟩ := S.at_
 have hF := s.field S.field
 exact ⟨⟨dx, s _ _ e (show 3 < 7 by decide)⟩, hF, hF.p S.fp.w32 S.fp.h32, s.drifts S.drifts, s.aways S.levels, S.stops⟩
end
end
section
variable {P : Program} {w : World} {K : PySem.W.Frag} {mg : Str → Option Value} {base : Heap}
structure Cr where
 ch : V
 md : Nat
 od : Nat
 tk : Nat
 ex : V
 mf : Nat
 dr : V
 su : V
 aw : V
def Cr.fs (x : Cr) : List (Str × V) := [("chart", x.ch), ("mode", .int (x.md : Int)), ("last_order", .int (x.od : Int)), ("tick_count", .int (x.tk : Int)), ("expected", x.ex), ("misfires", .int (x.mf : Int)), ("drifts", x.dr), ("sure_routes", x.su), ("away_routes", x.aw)]
def CraftAt (T : Txt K mg) (H : Hp) (p : Addr) (x : Cr) : Prop := ∃ dx, H p = some (.ins T.craft.Craft.A dx x.fs)
def SameX (p : Addr) (H H' : Hp) : Prop := ∀ b o, H b = some o → b ≠ p → H' b = some o
theorem Same.x {p : Addr} {H H' : Hp} (s : Same H H') : SameX p H H' := fun b o e _ => s b o e
theorem SameX.trans {p : Addr} {H H1 H2 : Hp} (a : SameX p H H1) (b : SameX p H1 H2) : SameX p H H2 := fun c o e h => b c o (a c o e h) h
theorem SameX.set {p : Addr} {H H' : Hp} {o : HO} (a : SameX p H H') : SameX p H (upd H' p o) := fun b u e h => by
 rw [upd_ne h]
 exact a b u e h
theorem SameX.s {T : Txt K mg} {p : Addr} {x : Cr} {H H' : Hp} (a : SameX p H H') (h : CraftAt T H p x) : SameS H H' := fun b o e hs => a b o e fun q => by
 obtain ⟨dx, hp⟩ := h
 rw [q, hp] at e
 cases e
 exact absurd (show (9 : Nat) < 7 from hs) (by decide)
theorem putF_len {f : Str} {v : V} : ∀ {fs : List (Str × V)}, (putF f v fs).length ≤ fs.length + 1
 | [] => Nat.le_refl _
 | (g, w) :: r => by
   unfold putF
   split
   · exact Nat.le_succ _
   · exact Nat.succ_le_succ putF_len
theorem CraftAt.mono {T : Txt K mg} {H H' : Hp} {p : Addr} {x : Cr} (s : Same H H') (h : CraftAt T H p x) : CraftAt T H' p x := by
 obtain ⟨dx, e⟩ := h
 exact ⟨dx, s _ _ e⟩
theorem CraftAt.meth {T : Txt K mg} {H : Hp} {p : Addr} {x : Cr} {R : Prop} {y : Str} (h : CraftAt T H p x) (hx : x.fs.lookup y = none) (q : R) : MethR T.craft.Craft.A y (.ref p) H R := by
 obtain ⟨dx, e⟩ := h
 exact w_methR e hx q
theorem rc_chart {T : Txt K mg} {H : Hp} {p : Addr} {x : Cr} {Q : VK} (h : CraftAt T H p x) (q : Q (x.ch) H) : FldR K "chart" (.ref p) H Q := by
 obtain ⟨dx, e⟩ := h
 exact w_fldR e T.craft.Craft.C T.craft.Craft.na.1 rfl q
theorem rc_mode {T : Txt K mg} {H : Hp} {p : Addr} {x : Cr} {Q : VK} (h : CraftAt T H p x) (q : Q (.int (x.md : Int)) H) : FldR K "mode" (.ref p) H Q := by
 obtain ⟨dx, e⟩ := h
 exact w_fldR e T.craft.Craft.C T.craft.Craft.na.2.1 rfl q
theorem rc_last_order {T : Txt K mg} {H : Hp} {p : Addr} {x : Cr} {Q : VK} (h : CraftAt T H p x) (q : Q (.int (x.od : Int)) H) : FldR K "last_order" (.ref p) H Q := by
 obtain ⟨dx, e⟩ := h
 exact w_fldR e T.craft.Craft.C T.craft.Craft.na.2.2.1 rfl q
theorem rc_tick_count {T : Txt K mg} {H : Hp} {p : Addr} {x : Cr} {Q : VK} (h : CraftAt T H p x) (q : Q (.int (x.tk : Int)) H) : FldR K "tick_count" (.ref p) H Q := by
 obtain ⟨dx, e⟩ := h
 exact w_fldR e T.craft.Craft.C T.craft.Craft.na.2.2.2.1 rfl q
theorem rc_expected {T : Txt K mg} {H : Hp} {p : Addr} {x : Cr} {Q : VK} (h : CraftAt T H p x) (q : Q (x.ex) H) : FldR K "expected" (.ref p) H Q := by
 obtain ⟨dx, e⟩ := h
 exact w_fldR e T.craft.Craft.C T.craft.Craft.na.2.2.2.2.2.2.2.1 rfl q
theorem rc_misfires {T : Txt K mg} {H : Hp} {p : Addr} {x : Cr} {Q : VK} (h : CraftAt T H p x) (q : Q (.int (x.mf : Int)) H) : FldR K "misfires" (.ref p) H Q := by
 obtain ⟨dx, e⟩ := h
 exact w_fldR e T.craft.Craft.C T.craft.Craft.na.2.2.2.2.2.2.2.2.1 rfl q
theorem rc_drifts {T : Txt K mg} {H : Hp} {p : Addr} {x : Cr} {Q : VK} (h : CraftAt T H p x) (q : Q (x.dr) H) : FldR K "drifts" (.ref p) H Q := by
 obtain ⟨dx, e⟩ := h
 exact w_fldR e T.craft.Craft.C T.craft.Craft.na.2.2.2.2.1 rfl q
theorem rc_sure_routes {T : Txt K mg} {H : Hp} {p : Addr} {x : Cr} {Q : VK} (h : CraftAt T H p x) (q : Q (x.su) H) : FldR K "sure_routes" (.ref p) H Q := by
 obtain ⟨dx, e⟩ := h
 exact w_fldR e T.craft.Craft.C T.craft.Craft.na.2.2.2.2.2.1 rfl q
theorem rc_away_routes {T : Txt K mg} {H : Hp} {p : Addr} {x : Cr} {Q : VK} (h : CraftAt T H p x) (q : Q (x.aw) H) : FldR K "away_routes" (.ref p) H Q := by
 obtain ⟨dx, e⟩ := h
 exact w_fldR e T.craft.Craft.C T.craft.Craft.na.2.2.2.2.2.2.1 rfl q
theorem sc_expected {T : Txt K mg} {H : Hp} {p : Addr} {x : Cr} {y : V} {R : Hp → Prop} (h : CraftAt T H p x) (q : ∀ H', CraftAt T H' p { x with ex := y } → SameX p H H' → R H') : SFldR K "expected" (.ref p) (y) H R := by
 obtain ⟨dx, e⟩ := h
 exact w_sfldR e T.craft.Craft.C T.craft.Craft.na.2.2.2.2.2.2.2.1 (show 9 < 1000 by decide) (q _ ⟨dx, upd_same⟩ (SameX.set (SPx.Same.x (Same.refl H))))
theorem sc_misfires {T : Txt K mg} {H : Hp} {p : Addr} {x : Cr} {y : Nat} {R : Hp → Prop} (h : CraftAt T H p x) (q : ∀ H', CraftAt T H' p { x with mf := y } → SameX p H H' → R H') : SFldR K "misfires" (.ref p) (.int (y : Int)) H R := by
 obtain ⟨dx, e⟩ := h
 exact w_sfldR e T.craft.Craft.C T.craft.Craft.na.2.2.2.2.2.2.2.2.1 (show 9 < 1000 by decide) (q _ ⟨dx, upd_same⟩ (SameX.set (SPx.Same.x (Same.refl H))))
theorem sc_drifts {T : Txt K mg} {H : Hp} {p : Addr} {x : Cr} {y : V} {R : Hp → Prop} (h : CraftAt T H p x) (q : ∀ H', CraftAt T H' p { x with dr := y } → SameX p H H' → R H') : SFldR K "drifts" (.ref p) (y) H R := by
 obtain ⟨dx, e⟩ := h
 exact w_sfldR e T.craft.Craft.C T.craft.Craft.na.2.2.2.2.1 (show 9 < 1000 by decide) (q _ ⟨dx, upd_same⟩ (SameX.set (SPx.Same.x (Same.refl H))))
theorem sc_sure_routes {T : Txt K mg} {H : Hp} {p : Addr} {x : Cr} {y : V} {R : Hp → Prop} (h : CraftAt T H p x) (q : ∀ H', CraftAt T H' p { x with su := y } → SameX p H H' → R H') : SFldR K "sure_routes" (.ref p) (y) H R := by
 obtain ⟨dx, e⟩ := h
 exact w_sfldR e T.craft.Craft.C T.craft.Craft.na.2.2.2.2.2.1 (show 9 < 1000 by decide) (q _ ⟨dx, upd_same⟩ (SameX.set (SPx.Same.x (Same.refl H))))
theorem sc_away_routes {T : Txt K mg} {H : Hp} {p : Addr} {x : Cr} {y : V} {R : Hp → Prop} (h : CraftAt T H p x) (q : ∀ H', CraftAt T H' p { x with aw := y } → SameX p H H' → R H') : SFldR K "away_routes" (.ref p) (y) H R := by
 obtain ⟨dx, e⟩ := h
 exact w_sfldR e T.craft.Craft.C T.craft.Craft.na.2.2.2.2.2.2.1 (show 9 < 1000 by decide) (q _ ⟨dx, upd_same⟩ (SameX.set (SPx.Same.x (Same.refl H))))
theorem sc_mode {T : Txt K mg} {H : Hp} {p : Addr} {x : Cr} {y : Nat} {R : Hp → Prop} (h : CraftAt T H p x) (q : ∀ H', CraftAt T H' p { x with md := y } → SameX p H H' → R H') : SFldR K "mode" (.ref p) (.int (y : Int)) H R := by
 obtain ⟨dx, e⟩ := h
 exact w_sfldR e T.craft.Craft.C T.craft.Craft.na.2.1 (show 9 < 1000 by decide) (q _ ⟨dx, upd_same⟩ (SameX.set (SPx.Same.x (Same.refl H))))
theorem sc_last_order {T : Txt K mg} {H : Hp} {p : Addr} {x : Cr} {y : Nat} {R : Hp → Prop} (h : CraftAt T H p x) (q : ∀ H', CraftAt T H' p { x with od := y } → SameX p H H' → R H') : SFldR K "last_order" (.ref p) (.int (y : Int)) H R := by
 obtain ⟨dx, e⟩ := h
 exact w_sfldR e T.craft.Craft.C T.craft.Craft.na.2.2.1 (show 9 < 1000 by decide) (q _ ⟨dx, upd_same⟩ (SameX.set (SPx.Same.x (Same.refl H))))
theorem sc_Craft_expect_nothing : FnScope ["self"] ["self"] (defScope (inClass (top 83) 2)) := fS
def sp_Craft_expect_nothing (T : Txt K mg) : Sp := fun vs H Q _ => ∃ (p dx : Addr) (fs : List (Str × V)), vs = [.ref p] ∧ H p = some (.ins T.craft.Craft.A dx fs) ∧ fs.length < 100 ∧ ∀ H', H' p = some (.ins T.craft.Craft.A dx (putF "misfires" (.int 0) (putF "expected" .non fs))) → SameX p H H' → Q .non H'
theorem ok_Craft_expect_nothing (T : Txt K mg) : FnOk P w K mg base CX0 1 T.craft.Craft_expect_nothing.a T.craft.Craft_expect_nothing.fd ["self"] (sp_Craft_expect_nothing T) := by
 refine T.craft.Craft_expect_nothing.F.ok sc_Craft_expect_nothing (fun _ _ _ _ h => by obtain ⟨p, dx, fs, rfl, _⟩ := h; rfl) (fun cdv A outer s H vs Q E hr h => ?_)
 obtain ⟨p, dx, fs, rfl, hp, hl, k⟩ := h
 refine ⟨_, (pss_cons (sfldK K (pv 0) pe_non rfl)
  (pss_one (sfldK K (pv 0) pe_int rfl))), ?_⟩
 try dsimp only [cxOf]
 walk_at "go"
 refine w_sfldR hp T.craft.Craft.C T.craft.Craft.na.2.2.2.2.2.2.2.1 (by omega) ?_
 walk_at "go"
 refine w_sfldR upd_same T.craft.Craft.C T.craft.Craft.na.2.2.2.2.2.2.2.2.1 (Nat.lt_of_le_of_lt putF_len (by omega)) ?_
 exact k _ upd_same (SameX.set (SameX.set (SPx.Same.x (Same.refl H))))
theorem exp_of {T : Txt K mg} {vs : List V} {H : Hp} {Q : VK} {E : XK} (h : ∃ (p : Addr) (x : Cr), vs = [.ref p] ∧ CraftAt T H p x ∧ ∀ H', CraftAt T H' p { x with ex := .non, mf := 0 } → SameX p H H' → Q .non H') : sp_Craft_expect_nothing T vs H Q E := by
 obtain ⟨p, x, e, ⟨dx, hp⟩, k⟩ := h
 exact ⟨p, dx, _, e, hp, (show 9 < 100 by decide), fun H' h' s => k H' ⟨dx, h'⟩ s⟩
theorem sc_Craft_told_state : FnScope ["self"] ["self"] (defScope (inClass (top 83) 13)) := fS
def sp_Craft_told_state (T : Txt K mg) : Sp := fun vs H Q _ => ∃ (p : Addr) (x : Cr), vs = [.ref p] ∧ CraftAt T H p x ∧ ∀ l H', Same H H' → H l = none → H' l = some (.lst [.int 0, .int (x.md : Int), .int (x.mf : Int), .int (x.od : Int), .int (x.tk : Int)]) → Q (.ref l) H'
theorem ok_Craft_told_state (T : Txt K mg) : FnOk P w K mg base CX0 1 T.craft.Craft_told_state.a T.craft.Craft_told_state.fd ["self"] (sp_Craft_told_state T) := by
 refine T.craft.Craft_told_state.F.ok sc_Craft_told_state (fun _ _ _ _ h => by obtain ⟨p, x, rfl, _⟩ := h; rfl) (fun cdv A outer s H vs Q E hr h => ?_)
 obtain ⟨p, x, rfl, hp, k⟩ := h
 refine ⟨_, (pss_one (ps_ret (pe_lst (pa_cons pe_int (pa_cons (fldK K (pv 0) rfl) (pa_cons (fldK K (pv 0) rfl) (pa_cons (fldK K (pv 0) rfl) (pa_cons (fldK K (pv 0) rfl) pa_nil)))))))), ?_⟩
 try dsimp only [cxOf]
 walk_at "go"
 refine rc_mode hp ?_
 walk_at "go"
 refine rc_misfires hp ?_
 walk_at "go"
 refine rc_last_order hp ?_
 walk_at "go"
 refine rc_tick_count hp ?_
 walk_at "go"
 exact w_small (by show 5 ≤ 1000; decide) fun l hl => k l _ (Same.new hl) hl upd_same
def DrOk (T : Txt K mg) (H : Hp) (m : Sr40.Map_) (v : V) : Prop := v = .non ∨ ∃ d f hl, v = .ref d ∧ DriftsIs T H d m f hl
def SuOk (T : Txt K mg) (H : Hp) (m : Sr40.Map_) (v : V) : Prop := v = .non ∨ ∃ p f d lv f' hl n, v = .ref p ∧ SureIs T H p m f d lv f' hl n
def AwOk (T : Txt K mg) (H : Hp) (m : Sr40.Map_) (v : V) : Prop := v = .non ∨ ∃ p f d lv f' hl n, v = .ref p ∧ AwayIs T H p m f d lv f' hl n
theorem sc_Craft_find_drifts : FnScope ["self"] ["self"] (defScope (inClass (top 83) 11)) := fS
def sp_Craft_find_drifts (T : Txt K mg) : Sp := fun vs H Q _ => ∃ (p c f hd pt bx : Addr) (x : Cr) (m : Sr40.Map_), vs = [.ref p] ∧ CraftAt T H p x ∧ x.ch = .ref c ∧ ChartIs T H c m f hd pt bx ∧ GoodM m ∧ DrOk T H m x.dr ∧ ∀ H' d f' hl, CraftAt T H' p { x with dr := .ref d } → SameX p H H' → DriftsIs T H' d m f' hl → Q .non H'
theorem ok_Craft_find_drifts (T : Txt K mg) : FnOk P w K mg base CX0 6 T.craft.Craft_find_drifts.a T.craft.Craft_find_drifts.fd ["self"] (sp_Craft_find_drifts T) := by
 refine T.craft.Craft_find_drifts.F.ok sc_Craft_find_drifts (fun _ _ _ _ h => by obtain ⟨p, c, f, hd, pt, bx, x, m, rfl, _⟩ := h; rfl) (fun cdv A outer s H vs Q E hr h => ?_)
 obtain ⟨p, c, f, hd, pt, bx, x, m, rfl, hp, hch, hC, g, hdr, k⟩ := h
 refine ⟨_, (pss_one (ps_if (pt_cmpR cm_isN (fldK K (pv 0) rfl) pe_non (nomark _)) (pss_one (sfldK K (pv 0) (pe_make T.drift.Drifts_init.M (ok_Drifts_init T) (hr.mono (by decide)) rfl T.drift.Drifts.c T.drift.Drifts_init.b .nil pass0 (pa_cons (fldK K (pv 0) rfl) pa_nil)) rfl)) pss_nil)), ?_⟩
 try dsimp only [cxOf]
 walk_at "go"
 refine rc_drifts hp ?_
 walk_at "go"
 rcases hdr with e | ⟨d, f', hl, e, hD⟩
 · rw [e]
   walk_at "go"
   refine ite2 (fun _ => ?_) (fun z => absurd rfl z)
   walk_at "go"
   refine rc_chart hp ?_
   rw [hch]
   walk_at "go"
   intro d dx nd ndx ne
   have hC0 : ChartIs T (upd (upd H dx (.own d)) d (.ins T.drift.Drifts.A dx [])) c m f hd pt bx := hC.mono ((Same.new ndx).trans (Same.new (by rw [upd_ne ne.symm]; exact nd)))
   refine ⟨d, dx, c, f, hd, pt, bx, m, rfl, upd_same, hC0, g, fun H1 hl hD keep => ⟨rfl, ?_⟩⟩
   have s1 : Same H H1 := Same.made nd ndx keep
   walk_at "go"
   refine sc_drifts (hp.mono s1) fun H2 h2 s2 => ?_
   exact k H2 d f hl h2 ((SPx.Same.x s1).trans s2) ((s2.s (hp.mono s1)).drifts hD)
 · rw [e]
   walk_at "go"
   refine ite2 (fun z => by cases z) (fun _ => ?_)
   walk_at "go"
   have ex : ({ x with dr := .ref d } : Cr) = x := by rw [← e]
   exact k H d f' hl (by rw [ex]; exact hp) (SPx.Same.x (Same.refl H)) hD
end
section
variable {P : Program} {w : World} {K : PySem.W.Frag} {mg : Str → Option Value} {base : Heap}
theorem sc_Craft_find_sure_routes : FnScope ["self"] ["self"] (defScope (inClass (top 83) 9)) := fS
def sp_Craft_find_sure_routes (T : Txt K mg) : Sp := fun vs H Q _ => ∃ (p c f hd pt bx : Addr) (x : Cr) (m : Sr40.Map_), vs = [.ref p] ∧ CraftAt T H p x ∧ x.ch = .ref c ∧ ChartIs T H c m f hd pt bx ∧ GoodM m ∧ DrOk T H m x.dr ∧ SuOk T H m x.su ∧ ∀ H' dr q f d lv f' hl n, CraftAt T H' p { x with dr := dr, su := .ref q } → SameX p H H' → DrOk T H' m dr → SureIs T H' q m f d lv f' hl n → Q .non H'
theorem ok_Craft_find_sure_routes (T : Txt K mg) : FnOk P w K mg base CX0 8 T.craft.Craft_find_sure_routes.a T.craft.Craft_find_sure_routes.fd ["self"] (sp_Craft_find_sure_routes T) := by
 refine T.craft.Craft_find_sure_routes.F.ok sc_Craft_find_sure_routes (fun _ _ _ _ h => by obtain ⟨p, c, f, hd, pt, bx, x, m, rfl, _⟩ := h; rfl) (fun cdv A outer s H vs Q E hr h => ?_)
 obtain ⟨p, c, f, hd, pt, bx, x, m, rfl, hp, hch, hC, g, hdr, hsu, k⟩ := h
 refine ⟨_, (pss_one (ps_if (pt_cmpR cm_isN (fldK K (pv 0) rfl) pe_non (nomark _)) (pss_cons (ps_expr (pe_meth0 (pv 0) T.craft.Craft.C T.craft.Craft_find_drifts.m (ok_Craft_find_drifts T) (hr.mono (by decide)) T.craft.Craft_find_drifts.b .nil pass0))
  (pss_one (sfldK K (pv 0) (pe_make T.routes.SureRoutes_init.M (ok_SureRoutes_init T) (hr.mono (by decide)) rfl T.routes.SureRoutes.c T.routes.SureRoutes_init.b .nil pass0 (pa_cons (fldK K (pv 0) rfl) (pa_cons (fldK K (pv 0) rfl) pa_nil))) rfl))) pss_nil)), ?_⟩
 try dsimp only [cxOf]
 walk_at "go"
 refine rc_sure_routes hp ?_
 walk_at "go"
 rcases hsu with e | ⟨q, f1, d1, lv1, f1', hl1, n1, e, hS⟩
 · rw [e]
   walk_at "go"
   refine ite2 (fun _ => ?_) (fun z => absurd rfl z)
   walk_at "go"
   refine CraftAt.meth hp rfl ?_
   walk_at "go"
   refine ⟨p, c, f, hd, pt, bx, x, m, rfl, hp, hch, hC, g, hdr, fun H1 d f' hl h1 s1 hD => ?_⟩
   have sS := s1.s hp
   walk_at "go"
   refine rc_chart h1 ?_
   show tCons _ _ _ _ _
   walk_at "go"
   refine rc_drifts h1 ?_
   walk_at "go"
   intro q dx nq ndx ne
   dsimp only
   rw [hch]
   have s2 : Same H1 (upd (upd H1 dx (.own q)) q (.ins T.routes.SureRoutes.A dx [])) := (Same.new ndx).trans (Same.new (by rw [upd_ne ne.symm]; exact nq))
   refine ⟨q, dx, c, d, f, hd, pt, bx, f', hl, m, rfl, upd_same, (sS.chart hC).mono s2, hD.mono s2, g, fun H2 lv n hS keep => ⟨rfl, ?_⟩⟩
   have s3 : Same H1 H2 := Same.made nq ndx keep
   walk_at "go"
   refine sc_sure_routes (h1.mono s3) fun H3 h3 s4 => ?_
   have sS4 := s4.s (h1.mono s3)
   exact k H3 (.ref d) q f d lv f' hl n h3 ((s1.trans (SPx.Same.x s3)).trans s4) (.inr ⟨d, f', hl, rfl, sS4.drifts (hD.mono s3)⟩) (sS4.sure hS)
 · rw [e]
   walk_at "go"
   refine ite2 (fun z => by cases z) (fun _ => ?_)
   walk_at "go"
   have ex : ({ x with dr := x.dr, su := .ref q } : Cr) = x := by rw [← e]
   exact k H x.dr q f1 d1 lv1 f1' hl1 n1 (by rw [ex]; exact hp) (SPx.Same.x (Same.refl H)) hdr hS
theorem sc_Craft_find_away_routes : FnScope ["self"] ["self"] (defScope (inClass (top 83) 10)) := fS
def sp_Craft_find_away_routes (T : Txt K mg) : Sp := fun vs H Q _ => ∃ (p c f hd pt bx : Addr) (x : Cr) (m : Sr40.Map_), vs = [.ref p] ∧ CraftAt T H p x ∧ x.ch = .ref c ∧ ChartIs T H c m f hd pt bx ∧ GoodM m ∧ DrOk T H m x.dr ∧ AwOk T H m x.aw ∧ ∀ H' dr q f d lv f' hl n, CraftAt T H' p { x with dr := dr, aw := .ref q } → SameX p H H' → DrOk T H' m dr → AwayIs T H' q m f d lv f' hl n → Q .non H'
theorem ok_Craft_find_away_routes (T : Txt K mg) : FnOk P w K mg base CX0 8 T.craft.Craft_find_away_routes.a T.craft.Craft_find_away_routes.fd ["self"] (sp_Craft_find_away_routes T) := by
 refine T.craft.Craft_find_away_routes.F.ok sc_Craft_find_away_routes (fun _ _ _ _ h => by obtain ⟨p, c, f, hd, pt, bx, x, m, rfl, _⟩ := h; rfl) (fun cdv A outer s H vs Q E hr h => ?_)
 obtain ⟨p, c, f, hd, pt, bx, x, m, rfl, hp, hch, hC, g, hdr, hsu, k⟩ := h
 refine ⟨_, (pss_one (ps_if (pt_cmpR cm_isN (fldK K (pv 0) rfl) pe_non (nomark _)) (pss_cons (ps_expr (pe_meth0 (pv 0) T.craft.Craft.C T.craft.Craft_find_drifts.m (ok_Craft_find_drifts T) (hr.mono (by decide)) T.craft.Craft_find_drifts.b .nil pass0))
  (pss_one (sfldK K (pv 0) (pe_make T.routes.AwayRoutes_init.M (ok_AwayRoutes_init T) (hr.mono (by decide)) rfl T.routes.AwayRoutes.c T.routes.AwayRoutes_init.b .nil pass0 (pa_cons (fldK K (pv 0) rfl) (pa_cons (fldK K (pv 0) rfl) pa_nil))) rfl))) pss_nil)), ?_⟩
 try dsimp only [cxOf]
 walk_at "go"
 refine rc_away_routes hp ?_
 walk_at "go"
 rcases hsu with e | ⟨q, f1, d1, lv1, f1', hl1, n1, e, hS⟩
 · rw [e]
   walk_at "go"
   refine ite2 (fun _ => ?_) (fun z => absurd rfl z)
   walk_at "go"
   refine CraftAt.meth hp rfl ?_
   walk_at "go"
   refine ⟨p, c, f, hd, pt, bx, x, m, rfl, hp, hch, hC, g, hdr, fun H1 d f' hl h1 s1 hD => ?_⟩
   have sS := s1.s hp
   walk_at "go"
   refine rc_chart h1 ?_
   show tCons _ _ _ _ _
   walk_at "go"
   refine rc_drifts h1 ?_
   walk_at "go"
   intro q dx nq ndx ne
   dsimp only
   rw [hch]
   have s2 : Same H1 (upd (upd H1 dx (.own q)) q (.ins T.routes.AwayRoutes.A dx [])) := (Same.new ndx).trans (Same.new (by rw [upd_ne ne.symm]; exact nq))
   refine ⟨q, dx, c, d, f, hd, pt, bx, f', hl, m, rfl, upd_same, (sS.chart hC).mono s2, hD.mono s2, g, fun H2 lv n hS keep => ⟨rfl, ?_⟩⟩
   have s3 : Same H1 H2 := Same.made nq ndx keep
   walk_at "go"
   refine sc_away_routes (h1.mono s3) fun H3 h3 s4 => ?_
   have sS4 := s4.s (h1.mono s3)
   exact k H3 (.ref d) q f d lv f' hl n h3 ((s1.trans (SPx.Same.x s3)).trans s4) (.inr ⟨d, f', hl, rfl, sS4.drifts (hD.mono s3)⟩) (sS4.away hS)
 · rw [e]
   walk_at "go"
   refine ite2 (fun z => by cases z) (fun _ => ?_)
   walk_at "go"
   have ex : ({ x with dr := x.dr, aw := .ref q } : Cr) = x := by rw [← e]
   exact k H x.dr q f1 d1 lv1 f1' hl1 n1 (by rw [ex]; exact hp) (SPx.Same.x (Same.refl H)) hdr hS
def ExOk (K : PySem.W.Frag) (H : Hp) (v : V) : Option Sr40.State → Prop
 | none => v = .non
 | some s => ∃ e, v = .ref e ∧ StT K H e s
theorem sc_Craft_misfires_at : FnScope ["self", "state"] ["self", "state"] (defScope (inClass (top 83) 7)) := fS
def sp_Craft_misfires_at (T : Txt K mg) : Sp := fun vs H Q _ => ∃ (p a q f d lv f' hl : Addr) (n : Nat) (x : Cr) (r : Sr41.Craft) (s : Sr40.State), vs = [.ref p, .ref a] ∧ CraftAt T H p x ∧ x.su = .ref q ∧ SureIs T H q r.map f d lv f' hl n ∧ StT K H a s ∧ Slow s ∧ ExOk K H x.ex r.expects ∧ x.mf = r.counts ∧ r.counts < 8 ∧ Q (optV (countsP r s)) H
theorem ok_Craft_misfires_at (T : Txt K mg) : FnOk P w K mg base CX0 5 T.craft.Craft_misfires_at.a T.craft.Craft_misfires_at.fd ["self", "state"] (sp_Craft_misfires_at T) := by
 refine T.craft.Craft_misfires_at.F.ok sc_Craft_misfires_at (fun _ _ _ _ h => by obtain ⟨p, a, q, f, d, lv, f', hl, n, x, r, s, rfl, _⟩ := h; rfl) (fun cdv A outer s H vs Q E hr h => ?_)
 obtain ⟨p, a, q, f, d, lv, f', hl, n, x, r, s, rfl, hp, hsu, hS, ha, hs, hex, hmf, h8, k⟩ := h
 refine ⟨_, (pss_cons (ps_if (pt_cmpR (eqK K hr.units) (pv 1) (fldK K (pv 0) rfl) (nomark _)) (pss_one (ps_ret (fldK K (pv 0) rfl))) pss_nil)
  (pss_cons (ps_if (PW.pt (pw_and (pt_cmpR op_gt (fldK K (pv 0) rfl) pe_int (nomark _)) (pw_and1 (pt_val (pe_meth (fldK K (pv 0) rfl) T.routes.SureRoutes.C T.routes.SureRoutes_is_sure.m (ok_SureRoutes_is_sure T) (hr.mono (by decide)) T.routes.SureRoutes_is_sure.b .nil pass0 (pa_cons (pv 1) (pa_cons (pe_glob rfl T.routes.MOST_TICKS.g T.routes.MOST_TICKS.r) (pa_cons (pe_op op_sub (fldK K (pv 0) rfl) pe_int) pa_nil)))))))) (pss_one (ps_ret (pe_op op_sub (fldK K (pv 0) rfl) pe_int))) pss_nil)
  (pss_one (ps_ret (pe_meth (fldK K (pv 0) rfl) T.routes.SureRoutes.C T.routes.SureRoutes_most_misfires.m (ok_SureRoutes_most_misfires T) (hr.mono (by decide)) T.routes.SureRoutes_most_misfires.b .nil pass0 (pa_cons (pv 1) pa_nil)))))), ?_⟩
 try dsimp only [cxOf]
 have deq : ∃ dd, Dp K H x.ex dd ∧ SeqAt.shaped dd = true ∧ (PyData.eqv (.tuple [.int s.x, .int s.y, .int s.vx, .int s.vy]) dd = decide (r.expects = some s)) := by
   cases hr : r.expects with
   | none =>
     rw [hr] at hex
     have hex : x.ex = .non := hex
     rw [hex]
     exact ⟨_, .non, rfl, rfl⟩
   | some u =>
     rw [hr] at hex
     obtain ⟨e, he, hu⟩ := hex
     rw [he]
     refine ⟨_, dp4 hu, rfl, ?_⟩
     rw [eq4, Bool.eq_iff_iff]
     simp only [Bool.and_eq_true, decide_eq_true_eq]
     obtain ⟨x1, x2, x3, x4⟩ := s
     obtain ⟨y1, y2, y3, y4⟩ := u
     simp
     omega
 obtain ⟨dd, hdd, hsh, heq⟩ := deq
 walk_at "go"
 refine rc_expected hp ?_
 refine w_eqD (dp4 ha) hdd rfl hsh ?_
 rw [heq]
 walk_at "go"
 refine ite2 (fun q1 => ?_) (fun q1 => ?_)
 · have q1 := of_decide_eq_true q1
   walk_at "go"
   refine rc_misfires hp ?_
   rw [hmf]
   unfold countsP at k
   rw [if_pos q1] at k
   exact k
 · have q1 : ¬ r.expects = some s := fun e => q1 (decide_eq_true e)
   unfold countsP at k
   rw [if_neg q1] at k
   have last : (¬ (0 < r.counts ∧ hasS r.map (levF r.map 250 (r.counts - 1)) s = true)) → sp_SureRoutes_most_misfires T [.ref q, .ref a] H Q E0 := fun hn => by
     refine ⟨q, a, f, d, lv, f', hl, r.map, n, s, rfl, hS, ha, hs, ?_⟩
     rw [if_neg hn] at k
     exact k
   walk_at "go"
   refine rc_misfires hp ?_
   rw [hmf]
   walk_at "go"
   refine ite2 (fun q2 => ?_) (fun q2 => ?_)
   · have q2 : 0 < r.counts := by
       have := of_decide_eq_true q2
       omega
     have ec : (r.counts : Int) - 1 = ((r.counts - 1 : Nat) : Int) := by omega
     walk_at "go"
     refine rc_sure_routes hp ?_
     rw [hsu]
     refine SureIs.meth hS rfl ?_
     walk_at "go"
     refine rc_misfires hp ?_
     rw [hmf]
     walk_at "go"
     rw [ec]
     refine ⟨q, a, f, d, lv, f', hl, r.map, n, 250, r.counts - 1, s, rfl, hS, ha, hs, by decide, by omega, ?_⟩
     walk_at "go"
     refine ite2 (fun q3 => ?_) (fun q3 => ?_)
     · walk_at "go"
       refine rc_misfires hp ?_
       rw [hmf]
       walk_at "go"
       rw [ec]
       rw [if_pos ⟨q2, q3⟩] at k
       exact k
     · walk_at "go"
       refine rc_sure_routes hp ?_
       rw [hsu]
       refine SureIs.meth hS rfl ?_
       walk_at "go"
       exact last fun z => q3 z.2
   · have q2 : ¬ 0 < r.counts := fun e => q2 (decide_eq_true (by omega))
     walk_at "go"
     refine rc_sure_routes hp ?_
     rw [hsu]
     refine SureIs.meth hS rfl ?_
     walk_at "go"
     exact last fun z => q2 z.1
end
section
variable {P : Program} {w : World} {K : PySem.W.Frag} {mg : Str → Option Value} {base : Heap}
structure CraftIs (T : Txt K mg) (H : Hp) (p : Addr) (x : Cr) (r : Sr41.Craft) : Prop where
 at_ : CraftAt T H p x
 ch : ∃ c f hd pt bx, x.ch = .ref c ∧ ChartIs T H c r.map f hd pt bx
 md : x.md = r.mode
 od : x.od = r.order
 tk : x.tk = r.ticks
 ex : ExOk K H x.ex r.expects
 mf : x.mf = r.counts
 dr : DrOk T H r.map x.dr
 su : SuOk T H r.map x.su
 aw : AwOk T H r.map x.aw
 ok : CraftOk r
theorem SameS.dr {T : Txt K mg} {H H' : Hp} {m : Sr40.Map_} {v : V} (s : SameS H H') (h : DrOk T H m v) : DrOk T H' m v := h.imp id fun ⟨d, f, hl, e, q⟩ => ⟨d, f, hl, e, s.drifts q⟩
theorem SameS.su {T : Txt K mg} {H H' : Hp} {m : Sr40.Map_} {v : V} (s : SameS H H') (h : SuOk T H m v) : SuOk T H' m v := h.imp id fun ⟨p, f, d, lv, f', hl, n, e, q⟩ => ⟨p, f, d, lv, f', hl, n, e, s.sure q⟩
theorem SameS.aw {T : Txt K mg} {H H' : Hp} {m : Sr40.Map_} {v : V} (s : SameS H H') (h : AwOk T H m v) : AwOk T H' m v := h.imp id fun ⟨p, f, d, lv, f', hl, n, e, q⟩ => ⟨p, f, d, lv, f', hl, n, e, s.away q⟩
theorem SameS.ex {H H' : Hp} {v : V} {e : Option Sr40.State} (s : SameS H H') (h : ExOk K H v e) : ExOk K H' v e := by
 cases e with
 | none => exact h
 | some u =>
   obtain ⟨a, e, q⟩ := h
   exact ⟨a, e, s.tup q⟩
theorem CraftIs.to {T : Txt K mg} {H H' : Hp} {p : Addr} {x : Cr} {r : Sr41.Craft} (h : CraftIs T H p x r) (s : SameX p H H') {y : Cr} (hy : CraftAt T H' p y) (e1 : y.ch = x.ch) (e2 : y.md = x.md) (e3 : y.od = x.od) (e4 : y.tk = x.tk) (e5 : y.ex = x.ex) (e6 : y.mf = x.mf) (hd : DrOk T H' r.map y.dr) (hs : SuOk T H' r.map y.su) (ha : AwOk T H' r.map y.aw) : CraftIs T H' p y r := by
 have sS := s.s h.at_
 obtain ⟨c, f, hd', pt, bx, e, hC⟩ := h.ch
 exact ⟨hy, ⟨c, f, hd', pt, bx, e1.trans e, sS.chart hC⟩, e2.trans h.md, e3.trans h.od, e4.trans h.tk, by rw [e5]; exact sS.ex h.ex, e6.trans h.mf, hd, hs, ha, h.ok⟩
theorem CraftIs.nothing {T : Txt K mg} {H H' : Hp} {p : Addr} {x : Cr} {r : Sr41.Craft} (h : CraftIs T H p x r) (s : SameX p H H') (hy : CraftAt T H' p { x with ex := .non, mf := 0 }) : CraftIs T H' p { x with ex := .non, mf := 0 } r.nothing := by
 have sS := s.s h.at_
 obtain ⟨c, f, hd', pt, bx, e, hC⟩ := h.ch
 exact ⟨hy, ⟨c, f, hd', pt, bx, e, sS.chart hC⟩, h.md, h.od, h.tk, rfl, rfl, sS.dr h.dr, sS.su h.su, sS.aw h.aw, ⟨h.ok.g, (by show 0 < 8; decide), fun _ => rfl, fun s e => by cases e⟩⟩
theorem no_burn (T : Txt K mg) : ∀ H, SqT K H T.craft.NO_BURN.a [.int 0, .int 0] := by
 have h := T.craft.NO_BURN.k
 intro H
 obtain ⟨a, e, q⟩ := kc_burn (b := ⟨0, 0⟩) h H
 cases e
 exact q
def DecQ (T : Txt K mg) (p : Addr) (H : Hp) (r : Sr41.Craft) (s : Sr40.State) (Q : VK) : Prop := ∀ H' t ab x' w b r', Sr41Neutral.doesF r s = some (w, b, r') → CraftIs T H' p x' r' → SameX p H H' → SqT K H' t [.int ((w : Nat) : Int), .ref ab] → BT K H' ab b → Q (.ref t) H'
theorem SameX.mono {p : Addr} {H H1 H2 : Hp} (a : SameX p H H1) (b : Same H1 H2) : SameX p H H2 := fun c o e h => b c o (a c o e h)
theorem CraftIs.mono {T : Txt K mg} {H H' : Hp} {p : Addr} {x : Cr} {r : Sr41.Craft} (h : CraftIs T H p x r) (s : Same H H') : CraftIs T H' p x r := h.to (SPx.Same.x s) (h.at_.mono s) rfl rfl rfl rfl rfl rfl ((SPx.Same.s s).dr h.dr) ((SPx.Same.s s).su h.su) ((SPx.Same.s s).aw h.aw)
theorem sc_Craft_go_away : FnScope ["self", "state"] ["self", "state"] (defScope (inClass (top 83) 8)) := fS
def sp_Craft_go_away (T : Txt K mg) : Sp := fun vs H Q _ => ∃ (p a : Addr) (x : Cr) (r : Sr41.Craft) (s : Sr40.State), vs = [.ref p, .ref a] ∧ CraftIs T H p x r ∧ StT K H a s ∧ r.map.there s = false ∧ r.map.here s = true ∧ r.mode = 2 ∧ DecQ T p H r s Q
theorem ok_Craft_go_away (T : Txt K mg) : FnOk P w K mg base CX0 9 T.craft.Craft_go_away.a T.craft.Craft_go_away.fd ["self", "state"] (sp_Craft_go_away T) := by
 refine T.craft.Craft_go_away.F.ok sc_Craft_go_away (fun _ _ _ _ h => by obtain ⟨p, a, x, r, s, rfl, _⟩ := h; rfl) (fun cdv A outer s H vs Q E hr h => ?_)
 obtain ⟨p, a, x, r, s, rfl, hX, ha, h0, h1, hm, k⟩ := h
 refine ⟨_, (pss_cons (ps_expr (pe_meth0 (pv 0) T.craft.Craft.C T.craft.Craft_find_away_routes.m (ok_Craft_find_away_routes T) (hr.mono (by decide)) T.craft.Craft_find_away_routes.b .nil pass0))
  (pss_cons (ps_if (pt_not (pt_val (pe_meth (fldK K (pv 0) rfl) T.routes.AwayRoutes.C T.routes.AwayRoutes_is_away.m (ok_AwayRoutes_is_away T) (hr.mono (by decide)) T.routes.AwayRoutes_is_away.b .nil pass0 (pa_cons (pv 1) (pa_cons (pe_glob rfl T.routes.MOST_TICKS.g T.routes.MOST_TICKS.r) pa_nil))))) (pss_one (ps_ret (pe_tup (pa_cons (pe_glob rfl T.craft.HELPLESS.g T.craft.HELPLESS.r) (pa_cons (pe_glob rfl T.craft.NO_BURN.g T.craft.NO_BURN.r) pa_nil))))) pss_nil)
  (pss_one (ps_ret (pe_tup (pa_cons (pe_glob rfl T.craft.GOING.g T.craft.GOING.r) (pa_cons (pe_meth (fldK K (pv 0) rfl) T.routes.AwayRoutes.C T.routes.AwayRoutes_chosen_burn.m (ok_AwayRoutes_chosen_burn T) (hr.mono (by decide)) T.routes.AwayRoutes_chosen_burn.b .nil pass0 (pa_cons (pv 1) pa_nil)) pa_nil))))))), ?_⟩
 try dsimp only [cxOf]
 obtain ⟨hf, hs⟩ := here_of h1
 obtain ⟨c, f, hd, pt, bx, ech, hC⟩ := hX.ch
 walk_at "go"
 refine CraftAt.meth hX.at_ rfl ?_
 walk_at "go"
 refine ⟨p, c, f, hd, pt, bx, x, r.map, rfl, hX.at_, ech, hC, hX.ok.g, hX.dr, hX.aw, fun H1 dr q f1 d1 lv1 f1' hl1 n1 hx1 s1 hdr1 hA => ?_⟩
 have sS := s1.s hX.at_
 have hX1 : CraftIs T H1 p { x with dr := dr, aw := .ref q } r := hX.to s1 hx1 rfl rfl rfl rfl rfl rfl hdr1 (sS.su hX.su) (.inr ⟨q, f1, d1, lv1, f1', hl1, n1, rfl, hA⟩)
 have ha1 : StT K H1 a s := sS.tup ha
 walk_at "go"
 refine rc_away_routes hx1 ?_
 refine AwayIs.meth hA rfl ?_
 walk_at "go"
 refine ⟨q, a, f1, d1, lv1, f1', hl1, r.map, n1, 250, s, rfl, hA, ha1, hs, by decide, ?_⟩
 walk_at "go"
 refine ite2 (fun q1 => ?_) (fun q1 => ?_)
 · rw [Bool.not_eq_true'] at q1
   walk_at "go"
   refine w_small (by show 2 ≤ 1000; decide) fun t ht => ?_
   have s2 : Same H1 (upd H1 t (.tup [.int 3, .ref T.craft.NO_BURN.a])) := Same.new ht
   exact k _ t _ _ 3 ⟨0, 0⟩ r (does_leavesNot hX.ok.g h0 h1 hm q1) (hX1.mono s2) (s1.mono s2) (SqT.of upd_same) (no_burn T _)
 · have q1 : awS r.map 250 s = true := by simpa using q1
   obtain ⟨t0, b, B⟩ := away_burn hX.ok.g hf hs q1
   walk_at "go"
   refine rc_away_routes hx1 ?_
   refine AwayIs.meth hA rfl ?_
   walk_at "go"
   refine ⟨q, a, f1, d1, lv1, f1', hl1, r.map, n1, t0, s, b, rfl, hA, ha1, hf, hs, B, fun ab H2 s2 hab => ?_⟩
   walk_at "go"
   refine w_small (by show 2 ≤ 1000; decide) fun t ht => ?_
   have s3 : Same H1 (upd H2 t (.tup [.int 2, .ref ab])) := s2.trans (Same.new ht)
   exact k _ t ab _ 2 b r (does_leaves hX.ok.g h0 h1 hm B) (hX1.mono s3) (s1.mono s3) (SqT.of upd_same) ((Same.new ht).tup hab)
end
section
variable {P : Program} {w : World} {K : PySem.W.Frag} {mg : Str → Option Value} {base : Heap}
theorem sc_Craft_come_alongside : FnScope ["self", "state", "misfires", "burn"] ["self", "state"] (defScope (inClass (top 83) 6)) := fS
def sp_Craft_come_alongside (T : Txt K mg) : Sp := fun vs H Q _ => ∃ (p a : Addr) (x : Cr) (r : Sr41.Craft) (s : Sr40.State), vs = [.ref p, .ref a] ∧ CraftIs T H p x r ∧ StT K H a s ∧ r.map.there s = false ∧ r.map.here s = true ∧ r.mode = 1 ∧ DecQ T p H r s Q
theorem ok_Craft_come_alongside (T : Txt K mg) : FnOk P w K mg base CX0 9 T.craft.Craft_come_alongside.a T.craft.Craft_come_alongside.fd ["self", "state"] (sp_Craft_come_alongside T) := by
 refine T.craft.Craft_come_alongside.F.ok sc_Craft_come_alongside (fun _ _ _ _ h => by obtain ⟨p, a, x, r, s, rfl, _⟩ := h; rfl) (fun cdv A outer s H vs Q E hr h => ?_)
 obtain ⟨p, a, x, r, s, rfl, hX, ha, h0, h1, hm, k⟩ := h
 refine ⟨_, (pss_cons (ps_expr (pe_meth0 (pv 0) T.craft.Craft.C T.craft.Craft_find_sure_routes.m (ok_Craft_find_sure_routes T) (hr.mono (by decide)) T.craft.Craft_find_sure_routes.b .nil pass0))
  (pss_cons (sA 2 sc_Craft_come_alongside.nd (pe_meth (pv 0) T.craft.Craft.C T.craft.Craft_misfires_at.m (ok_Craft_misfires_at T) (hr.mono (by decide)) T.craft.Craft_misfires_at.b .nil pass0 (pa_cons (pv 1) pa_nil)))
  (pss_cons (ps_if (pt_cmpR cm_isN (pv 2) pe_non (nomark _)) (pss_cons (ps_expr (pe_meth0 (pv 0) T.craft.Craft.C T.craft.Craft_expect_nothing.m (ok_Craft_expect_nothing T) (hr.mono (by decide)) T.craft.Craft_expect_nothing.b .nil pass0))
  (pss_one (ps_ret (pe_tup (pa_cons (pe_glob rfl T.craft.HELPLESS.g T.craft.HELPLESS.r) (pa_cons (pe_glob rfl T.craft.NO_BURN.g T.craft.NO_BURN.r) pa_nil)))))) pss_nil)
  (pss_cons (sA 3 sc_Craft_come_alongside.nd (pe_meth (fldK K (pv 0) rfl) T.routes.SureRoutes.C T.routes.SureRoutes_chosen_burn.m (ok_SureRoutes_chosen_burn T) (hr.mono (by decide)) T.routes.SureRoutes_chosen_burn.b .nil pass0 (pa_cons (pv 1) (pa_cons (pv 2) pa_nil))))
  (pss_cons (sfldK K (pv 0) (cG T.motion.behind_tick (ok_behind_tick T) hr (pa_cons (pv 1) (pa_cons (pv 3) pa_nil))) rfl)
  (pss_cons (sfldK K (pv 0) (pv 2) rfl)
  (pss_one (ps_ret (pe_tup (pa_cons (pe_glob rfl T.craft.COMING.g T.craft.COMING.r) (pa_cons (pv 3) pa_nil))))))))))), ?_⟩
 try dsimp only [cxOf]
 obtain ⟨hf, hs⟩ := here_of h1
 obtain ⟨c, f, hd, pt, bx, ech, hC⟩ := hX.ch
 walk_at "go"
 refine CraftAt.meth hX.at_ rfl ?_
 walk_at "go"
 refine ⟨p, c, f, hd, pt, bx, x, r.map, rfl, hX.at_, ech, hC, hX.ok.g, hX.dr, hX.su, fun H1 dr q f1 d1 lv1 f1' hl1 n1 hx1 s1 hdr1 hA => ?_⟩
 have sS := s1.s hX.at_
 have hX1 : CraftIs T H1 p { x with dr := dr, su := .ref q } r := hX.to s1 hx1 rfl rfl rfl rfl rfl rfl hdr1 (.inr ⟨q, f1, d1, lv1, f1', hl1, n1, rfl, hA⟩) (sS.aw hX.aw)
 have ha1 : StT K H1 a s := sS.tup ha
 walk_at "go"
 refine CraftAt.meth hx1 rfl ?_
 walk_at "go"
 refine ⟨p, a, q, f1, d1, lv1, f1', hl1, n1, _, r, s, rfl, hx1, rfl, hA, ha1, hs, hX1.ex, hX1.mf, hX.ok.few, ?_⟩
 cases hcp : countsP r s with
 | none =>
   walk_at "go"
   refine ite2 (fun _ => ?_) (fun z => absurd rfl z)
   walk_at "go"
   refine CraftAt.meth hx1 rfl ?_
   walk_at "go"
   refine exp_of ⟨p, _, rfl, hx1, fun H2 hx2 s2 => ?_⟩
   walk_at "go"
   refine w_small (by show 2 ≤ 1000; decide) fun t ht => ?_
   have s3 : Same H2 (upd H2 t (.tup [.int 3, .ref T.craft.NO_BURN.a])) := Same.new ht
   exact k _ t _ _ 3 ⟨0, 0⟩ r.nothing (does_goesNot hX.ok.g h0 h1 hm hX.ok.few hX.ok.none_ hcp) ((hX1.nothing s2 hx2).mono s3) ((s1.trans s2).mono s3) (SqT.of upd_same) (no_burn T _)
 | some cc =>
   obtain ⟨hc8, hsure⟩ := counts_sure hX.ok hcp
   obtain ⟨t0, b, B⟩ := sure_burn hX.ok.g hf hs hc8 hsure h0
   walk_at "go"
   refine ite2 (fun z => by cases z) (fun _ => ?_)
   walk_at "go"
   refine rc_sure_routes hx1 ?_
   refine SureIs.meth hA rfl ?_
   walk_at "go"
   refine ⟨q, a, f1, d1, lv1, f1', hl1, r.map, n1, t0, cc, s, b, rfl, hA, ha1, hf, hs, hc8, B, fun ab H2 s2 hab => ?_⟩
   have ha2 := s2.tup ha1
   walk_at "go"
   refine ⟨a, ab, s.x, s.y, s.vx, s.vy, b.a, b.b, rfl, ha2, hab, fun u H3 hu e3 => ?_⟩
   have s3 : Same H2 H3 := by rw [e3]; exact Same.new hu
   have hu3 : StT K H3 u (af s b) := SqT.of (by rw [e3]; exact upd_same)
   have s23 := s2.trans s3
   have hx3 := hx1.mono s23
   walk_at "go"
   refine sc_expected hx3 fun H4 hx4 s4 => ?_
   walk_at "go"
   refine sc_misfires (y := cc) hx4 fun H5 hx5 s5 => ?_
   have s15 : SameX p H1 H5 := ((SPx.Same.x s23).trans s4).trans s5
   have sS15 := s15.s hx1
   have sS35 := (s4.trans s5).s hx3
   walk_at "go"
   refine w_small (by show 2 ≤ 1000; decide) fun t ht => ?_
   have s6 : Same H5 (upd H5 t (.tup [.int 1, .ref ab])) := Same.new ht
   obtain ⟨c', f2, hd2, pt2, bx2, ech2, hC2⟩ := hX1.ch
   have hY : CraftIs T H5 p _ { r with expects := some (af s b), counts := cc } := ⟨hx5, ⟨c', f2, hd2, pt2, bx2, ech2, sS15.chart hC2⟩, hX1.md, hX1.od, hX1.tk, ⟨u, rfl, sS35.tup hu3⟩, rfl, sS15.dr hX1.dr, sS15.su hX1.su, sS15.aw hX1.aw, goes_ok hX.ok hm hc8 B r.ticks⟩
   exact k _ t ab _ 1 b _ (does_goes hX.ok.g h0 h1 hm hX.ok.few hX.ok.none_ hcp hc8 B) (hY.mono s6) ((s1.trans s15).mono s6) (SqT.of upd_same) (s6.tup (sS35.tup (s3.tup hab)))
theorem sc_Craft_decide : FnScope ["self", "state"] ["self", "state"] (defScope (inClass (top 83) 5)) := fS
def sp_Craft_decide (T : Txt K mg) : Sp := fun vs H Q _ => ∃ (p a : Addr) (x : Cr) (r : Sr41.Craft) (s : Sr40.State), vs = [.ref p, .ref a] ∧ CraftIs T H p x r ∧ StT K H a s ∧ r.mode ≤ 2 ∧ DecQ T p H r s Q
theorem ok_Craft_decide (T : Txt K mg) : FnOk P w K mg base CX0 10 T.craft.Craft_decide.a T.craft.Craft_decide.fd ["self", "state"] (sp_Craft_decide T) := by
 refine T.craft.Craft_decide.F.ok sc_Craft_decide (fun _ _ _ _ h => by obtain ⟨p, a, x, r, s, rfl, _⟩ := h; rfl) (fun cdv A outer s H vs Q E hr h => ?_)
 obtain ⟨p, a, x, r, s, rfl, hX, ha, hm, k⟩ := h
 refine ⟨_, (pss_cons (ps_if (pt_val (pe_meth (fldK K (pv 0) rfl) T.chart.Chart.C T.chart.Chart_is_there.m (ok_Chart_is_there T) (hr.mono (by decide)) T.chart.Chart_is_there.b .nil pass0 (pa_cons (pv 1) pa_nil))) (pss_cons (ps_expr (pe_meth0 (pv 0) T.craft.Craft.C T.craft.Craft_expect_nothing.m (ok_Craft_expect_nothing T) (hr.mono (by decide)) T.craft.Craft_expect_nothing.b .nil pass0))
  (pss_one (ps_ret (pe_tup (pa_cons (pe_glob rfl T.craft.THERE.g T.craft.THERE.r) (pa_cons (pe_glob rfl T.craft.NO_BURN.g T.craft.NO_BURN.r) pa_nil)))))) pss_nil)
  (pss_cons (ps_if (pt_not (pt_val (pe_meth (fldK K (pv 0) rfl) T.chart.Chart.C T.chart.Chart_is_here.m (ok_Chart_is_here T) (hr.mono (by decide)) T.chart.Chart_is_here.b .nil pass0 (pa_cons (pv 1) pa_nil)))) (pss_cons (ps_expr (pe_meth0 (pv 0) T.craft.Craft.C T.craft.Craft_expect_nothing.m (ok_Craft_expect_nothing T) (hr.mono (by decide)) T.craft.Craft_expect_nothing.b .nil pass0))
  (pss_one (ps_ret (pe_tup (pa_cons (pe_glob rfl T.craft.NOT_HERE.g T.craft.NOT_HERE.r) (pa_cons (pe_glob rfl T.craft.NO_BURN.g T.craft.NO_BURN.r) pa_nil)))))) pss_nil)
  (pss_cons (ps_if (pt_cmpR op_eq (fldK K (pv 0) rfl) (pe_glob rfl T.messages.ALONGSIDE.g T.messages.ALONGSIDE.r) (nomark _)) (pss_one (ps_ret (pe_meth (pv 0) T.craft.Craft.C T.craft.Craft_come_alongside.m (ok_Craft_come_alongside T) (hr.mono (by decide)) T.craft.Craft_come_alongside.b .nil pass0 (pa_cons (pv 1) pa_nil)))) pss_nil)
  (pss_cons (ps_if (pt_cmpR op_eq (fldK K (pv 0) rfl) (pe_glob rfl T.messages.AWAY.g T.messages.AWAY.r) (nomark _)) (pss_one (ps_ret (pe_meth (pv 0) T.craft.Craft.C T.craft.Craft_go_away.m (ok_Craft_go_away T) (hr.mono (by decide)) T.craft.Craft_go_away.b .nil pass0 (pa_cons (pv 1) pa_nil)))) pss_nil)
  (pss_one (ps_ret (pe_tup (pa_cons (pe_glob rfl T.craft.IDLE.g T.craft.IDLE.r) (pa_cons (pe_glob rfl T.craft.NO_BURN.g T.craft.NO_BURN.r) pa_nil))))))))), ?_⟩
 try dsimp only [cxOf]
 obtain ⟨c, f, hd, pt, bx, ech, hC⟩ := hX.ch
 obtain ⟨cx, hcx⟩ := hC.at_
 walk_at "go"
 refine rc_chart hX.at_ ?_
 rw [ech]
 refine w_methR hcx rfl ?_
 walk_at "go"
 refine ⟨c, a, f, hd, pt, bx, r.map, s, rfl, hC, ha, fun H1 s1 => ?_⟩
 have hX1 := hX.mono s1
 have ha1 : StT K H1 a s := s1.tup ha
 walk_at "go"
 refine ite2 (fun q1 => ?_) (fun q1 => ?_)
 · walk_at "go"
   refine CraftAt.meth hX1.at_ rfl ?_
   walk_at "go"
   refine exp_of ⟨p, _, rfl, hX1.at_, fun H2 hx2 s2 => ?_⟩
   walk_at "go"
   refine w_small (by show 2 ≤ 1000; decide) fun t ht => ?_
   have s3 : Same H2 (upd H2 t (.tup [.int 5, .ref T.craft.NO_BURN.a])) := Same.new ht
   exact k _ t _ _ 5 ⟨0, 0⟩ r.nothing (does_there q1) ((hX1.nothing s2 hx2).mono s3) (((SPx.Same.x s1).trans s2).mono s3) (SqT.of upd_same) (no_burn T _)
 · rw [Bool.not_eq_true] at q1
   walk_at "go"
   refine rc_chart hX1.at_ ?_
   rw [ech]
   refine w_methR (s1 _ _ hcx) rfl ?_
   walk_at "go"
   refine ⟨c, a, f, hd, pt, bx, r.map, s, rfl, hC.mono s1, ha1, ?_⟩
   walk_at "go"
   refine ite2 (fun q2 => ?_) (fun q2 => ?_)
   · rw [Bool.not_eq_true'] at q2
     walk_at "go"
     refine CraftAt.meth hX1.at_ rfl ?_
     walk_at "go"
     refine exp_of ⟨p, _, rfl, hX1.at_, fun H2 hx2 s2 => ?_⟩
     walk_at "go"
     refine w_small (by show 2 ≤ 1000; decide) fun t ht => ?_
     have s3 : Same H2 (upd H2 t (.tup [.int 4, .ref T.craft.NO_BURN.a])) := Same.new ht
     exact k _ t _ _ 4 ⟨0, 0⟩ r.nothing (does_gone q1 q2) ((hX1.nothing s2 hx2).mono s3) (((SPx.Same.x s1).trans s2).mono s3) (SqT.of upd_same) (no_burn T _)
   · have q2 : r.map.here s = true := by simpa using q2
     have kk : DecQ T p H1 r s Q := fun H' t ab x' w b r' e1 e2 e3 e4 e5 => k H' t ab x' w b r' e1 e2 ((SPx.Same.x s1).trans e3) e4 e5
     walk_at "go"
     refine rc_mode hX1.at_ ?_
     rw [hX.md]
     walk_at "go"
     refine ite2 (fun q3 => ?_) (fun q3 => ?_)
     · have q3 : r.mode = 1 := by
         have := of_decide_eq_true q3
         omega
       walk_at "go"
       refine CraftAt.meth hX1.at_ rfl ?_
       walk_at "go"
       exact ⟨p, a, x, r, s, rfl, hX1, ha1, q1, q2, q3, kk⟩
     · have q3 : r.mode ≠ 1 := fun e => q3 (decide_eq_true (by rw [e]; rfl))
       walk_at "go"
       refine rc_mode hX1.at_ ?_
       rw [hX.md]
       walk_at "go"
       refine ite2 (fun q4 => ?_) (fun q4 => ?_)
       · have q4 : r.mode = 2 := by
           have := of_decide_eq_true q4
           omega
         walk_at "go"
         refine CraftAt.meth hX1.at_ rfl ?_
         walk_at "go"
         exact ⟨p, a, x, r, s, rfl, hX1, ha1, q1, q2, q4, kk⟩
       · have q4 : r.mode ≠ 2 := fun e => q4 (decide_eq_true (by rw [e]; rfl))
         walk_at "go"
         refine w_small (by show 2 ≤ 1000; decide) fun t ht => ?_
         have s3 : Same H1 (upd H1 t (.tup [.int 0, .ref T.craft.NO_BURN.a])) := Same.new ht
         exact kk _ t _ _ 0 ⟨0, 0⟩ r (does_waits q1 q2 (by omega)) (hX1.mono s3) (SPx.Same.x s3) (SqT.of upd_same) (no_burn T _)
end
local macro_rules | `(tactic| walk_at "sp") => `(tactic| first
  | with_reducible refine w_ifE ?_
  | with_reducible refine w_iRev ?_
  | with_reducible refine w_rev (by assumption) ?_
  | with_reducible refine w_faug ?_)
section
variable {P : Program} {w : World} {K : PySem.W.Frag} {mg : Str → Option Value} {base : Heap}
def natV (ns : List Nat) : List V := ns.map fun (x : Nat) => V.int (x : Int)
theorem natV_len (ns : List Nat) : (natV ns).length = ns.length := List.length_map _
theorem natV_at {ns : List Nat} {i : Nat} (h : i < ns.length) : atI (natV ns) ((i : Nat) : Int) = some (V.int ((ns.getD i 0 : Nat) : Int)) := by
 refine atI_nat ?_
 unfold natV
 rw [List.getElem?_map, List.getElem?_eq_getElem h, List.getD_eq_getElem?_getD, List.getElem?_eq_getElem h]
 rfl
theorem natV_cut {ns : List Nat} {a b : Nat} (h : a ≤ b) (hb : b ≤ ns.length) : cutV (natV ns) (some (a : Int)) (some (b : Int)) = natV ((ns.drop a).take (b - a)) := by
 rw [cut_in h (by rw [natV_len]; exact hb)]
 unfold natV
 rw [← List.map_drop, ← List.map_take]
theorem natV_end {ns : List Nat} {a : Nat} (h : a ≤ ns.length) : cutV (natV ns) (some (a : Int)) none = natV (ns.drop a) := by
 unfold cutV
 rw [natV_len, HT.sIx_nat, Nat.min_eq_left h]
 show (List.drop a (natV ns)).take (ns.length - a) = _
 unfold natV
 rw [← List.map_drop, List.take_of_length_le (by rw [List.length_map, List.length_drop]; exact Nat.le_refl _)]
theorem natV_app (a b : List Nat) : natV (a ++ b) = natV a ++ natV b := List.map_append
theorem low2 (n : Nat) : lowV n 2 = natV (Sr41.two n) := by
 show [V.int ((n / 256 ^ 0 % 256 : Nat) : Int), V.int ((n / 256 ^ 1 % 256 : Nat) : Int)] = [V.int ((n % 256 : Nat) : Int), V.int ((n / 256 % 256 : Nat) : Int)]
 rw [Nat.pow_zero, Nat.div_one, Nat.pow_one]
theorem low3 (n : Nat) : lowV n 3 = natV (Sr41.three n) := by
 show [V.int ((n / 256 ^ 0 % 256 : Nat) : Int), V.int ((n / 256 ^ 1 % 256 : Nat) : Int), V.int ((n / 256 ^ 2 % 256 : Nat) : Int)] = [V.int ((n % 256 : Nat) : Int), V.int ((n / 256 % 256 : Nat) : Int), V.int ((n / 65536 % 256 : Nat) : Int)]
 rw [Nat.pow_zero, Nat.div_one, Nat.pow_one]
def numF (ns : List Nat) : Nat := ns.foldr (fun b n => 256 * n + b) 0
theorem numF_drop {ns : List Nat} {j : Nat} (h : j < ns.length) : numF (ns.drop j) = 256 * numF (ns.drop (j + 1)) + ns[j] := by
 rw [List.drop_eq_getElem_cons h]
 rfl
def kO (ns : List Nat) : Nat := ns.getD 2 0 + 256 * ns.getD 3 0
def kR (ns : List Nat) : Nat := ns.getD 5 0 + 256 * ns.getD 6 0 + 65536 * ns.getD 7 0
def isMs (f : Nat) (ns : List Nat) : Bool := decide (ns.length = 8) && decide (ns.getD 0 0 = f)
def isOf (ns : List Nat) : Bool := Sr41.isWhat (ns.getD 1 0) && (!decide (kO ns = 0) && decide (ns.drop 4 = [0, 0, 0, 0]))
def isRp (ns : List Nat) : Bool := isMs 3 ns && (decide (ns.getD 1 0 ≤ 5) && (decide (ns.getD 2 0 < 32) && (decide (ns.getD 3 0 < 32) && (decide (ns.getD 4 0 ≤ 48) && !decide (kR ns = 0)))))
theorem eight_of {ns : List Nat} (h : ns.length = 8) : ∃ a b c d e f g i, ns = [a, b, c, d, e, f, g, i] := by
 match ns, h with
 | [a, b, c, d, e, f, g, i], _ => exact ⟨a, b, c, d, e, f, g, i, rfl⟩
theorem isMs_len {f : Nat} {ns : List Nat} (h : isMs f ns = true) : ns.length = 8 := by
 unfold isMs at h
 rw [Bool.and_eq_true] at h
 exact of_decide_eq_true h.1
theorem isMs_ne {f g : Nat} {ns : List Nat} (h : isMs f ns = true) (hn : f ≠ g) : isMs g ns = false := by
 unfold isMs at h ⊢
 rw [Bool.and_eq_true] at h
 have e := of_decide_eq_true h.2
 rw [e, decide_eq_false hn, Bool.and_false]
theorem msg_of (ns : List Nat) : Sr41.messageOf ns = if isMs 1 ns && isOf ns then some (.order (ns.getD 1 0) (kO ns)) else if isMs 2 ns && isOf ns then some (.answer (ns.getD 1 0) (kO ns)) else if isRp ns then some (.report (ns.getD 1 0) (ns.getD 2 0) (ns.getD 3 0) (ns.getD 4 0) (kR ns)) else none := by
 by_cases h : ns.length = 8
 · obtain ⟨a, b, c, d, e, f, g, i, rfl⟩ := eight_of h
   unfold Sr41.messageOf isMs isOf isRp isMs kO kR
   simp only [List.length_cons, List.length_nil, List.getD_cons_zero, List.getD_cons_succ, List.head?_cons, List.drop_succ_cons, List.drop_zero, Option.some.injEq, Bool.and_eq_true, decide_eq_true_eq, Bool.not_eq_true', decide_eq_false_iff_not, ne_eq, not_true_eq_false, if_false, true_and, and_assoc]
 · have h1 : ∀ f, isMs f ns = false := fun f => by
     unfold isMs
     rw [decide_eq_false h, Bool.false_and]
   have h2 : isRp ns = false := by
     unfold isRp
     rw [h1, Bool.false_and]
   rw [h1, h1, h2]
   unfold Sr41.messageOf
   simp [h]
theorem msg_eight (l : List Int) : (Sr41Neutral.eight l).bind Sr41.messageOf = Sr41.messageOf (Sr41Neutral.nats l) := by
 unfold Sr41Neutral.eight
 split
 · rfl
 · rename_i h
   have h2 : (Sr41Neutral.nats l).length ≠ 8 := by
     unfold Sr41Neutral.nats
     rw [List.length_map]
     exact h
   unfold Sr41.messageOf
   simp [h2]
theorem eqL4 (p q r s p' q' r' s' : Int) : PyData.eqv (.list [.int p, .int q, .int r, .int s]) (.list [.int p', .int q', .int r', .int s']) = (decide (p = p') && (decide (q = q') && (decide (r = r') && decide (s = s')))) := by
 show (p == p' && (q == q' && (r == r' && (s == s' && true)))) = _
 rw [Bool.and_true, Bool.beq_eq_decide_eq, Bool.beq_eq_decide_eq, Bool.beq_eq_decide_eq, Bool.beq_eq_decide_eq]
theorem nat0 (n : Nat) : decide ((n : Int) = 0) = decide (n = 0) := by
 rw [Bool.eq_iff_iff, decide_eq_true_eq, decide_eq_true_eq]
 omega
theorem dps_nat {H : Hp} : ∀ ns : List Nat, DpAll K H (natV ns) (ns.map fun (x : Nat) => PyData.int (x : Int))
 | [] => .nil
 | x :: r => .cons (.int _) (dps_nat r)
theorem sc_number_from : FnScope ["row", "number", "byte"] ["row"] (defScope (top 54)) := fS
def sp_number_from (K : PySem.W.Frag) : Sp := fun vs H Q _ => ∃ (l : Addr) (ns : List Nat), vs = [.ref l] ∧ SqL K H l (natV ns) ∧ Q (.int ((numF ns : Nat) : Int)) H
theorem ok_number_from (T : Txt K mg) : FnOk P w K mg base CX0 1 T.messages.number_from.a T.messages.number_from.fd ["row"] (sp_number_from K) := by
 refine T.messages.number_from.F.ok sc_number_from (fun _ _ _ _ h => by obtain ⟨l, ns, rfl, _⟩ := h; rfl) (fun cdv A outer s H vs Q E hr h => ?_)
 obtain ⟨l, ns, rfl, hl, k⟩ := h
 refine ⟨_, (pss_cons (sA 1 sc_number_from.nd pe_int)
  (pss_cons (ps_for PassesOwn.never rfl (irK K rfl T.n_reversed (pa_cons (pv 0) pa_nil)) (gN 2 sc_number_from.nd) (pss_one (sA 1 sc_number_from.nd (pe_op op_add (pe_op op_mul pe_int (pv 1)) (pv 2)))))
  (pss_one (ps_ret (pv 1))))), ?_⟩
 try dsimp only [cxOf]
 walk_at "go"
 refine for_rev (fun i σ' H' => H' = H ∧ ∃ v, σ' = [some (.ref l), some (.int ((numF (ns.drop (ns.length - i)) : Nat) : Int)), v]) ⟨rfl, _, by rw [Nat.sub_zero, List.drop_length]; rfl⟩ ?_ ?_ ?_
 · rintro i σ' H' _ ⟨rfl, _⟩
   exact hl
 · rintro i x σ' H' hi hx ⟨rfl, v, rfl⟩
   rw [natV_len] at hi hx
   have hj : ns.length - 1 - i < ns.length := by omega
   unfold natV at hx
   rw [List.getElem?_map, List.getElem?_eq_getElem hj] at hx
   cases hx
   walk_at "go"
   refine ⟨rfl, some (.int ((ns[ns.length - 1 - i] : Nat) : Int)), ?_⟩
   have e1 : ns.length - (i + 1) = ns.length - 1 - i := by omega
   have e2 : ns.length - 1 - i + 1 = ns.length - i := by omega
   rw [e1, numF_drop hj, e2, Int.natCast_add, Int.natCast_mul]
   rfl
 · rintro σ' H' ⟨rfl, v, rfl⟩
   rw [natV_len, Nat.sub_self, List.drop_zero]
   walk_at "go"
   exact k
theorem sc_number_of_order : FnScope ["m"] ["m"] (defScope (top 45)) := fS
def sp_number_of_order (K : PySem.W.Frag) : Sp := fun vs H Q _ => ∃ (l : Addr) (ns : List Nat), vs = [.ref l] ∧ SqL K H l (natV ns) ∧ ns.length = 8 ∧ ∀ H', Same H H' → Q (.int ((kO ns : Nat) : Int)) H'
theorem ok_number_of_order (T : Txt K mg) : FnOk P w K mg base CX0 2 T.messages.number_of_order.a T.messages.number_of_order.fd ["m"] (sp_number_of_order K) := by
 refine T.messages.number_of_order.F.ok sc_number_of_order (fun _ _ _ _ h => by obtain ⟨l, ns, rfl, _⟩ := h; rfl) (fun cdv A outer s H vs Q E hr h => ?_)
 obtain ⟨l, ns, rfl, hl, h8, k⟩ := h
 refine ⟨_, (pss_one (ps_ret (cG T.messages.number_from (ok_number_from T) hr (pa_cons (pe_slice (slK K) (pv 0) (po_some pe_int) (po_some pe_int)) pa_nil)))), ?_⟩
 try dsimp only [cxOf]
 walk_at "go"
 refine w_slL hl fun p hp => ?_
 rw [show cutV (natV ns) (some 2) (some 4) = natV ((ns.drop 2).take (4 - 2)) from natV_cut (a := 2) (b := 4) (by decide) (by omega)]
 walk_at "go"
 refine ⟨p, _, rfl, SqL.of upd_same, ?_⟩
 have e : numF ((ns.drop 2).take (4 - 2)) = kO ns := by
   obtain ⟨a, b, c, d, e, f, g, i, rfl⟩ := eight_of h8
   show 256 * (256 * 0 + d) + c = c + 256 * d
   omega
 rw [e]
 exact k _ (Same.new hp)
theorem sc_number_of_report : FnScope ["m"] ["m"] (defScope (top 46)) := fS
def sp_number_of_report (K : PySem.W.Frag) : Sp := fun vs H Q _ => ∃ (l : Addr) (ns : List Nat), vs = [.ref l] ∧ SqL K H l (natV ns) ∧ ns.length = 8 ∧ ∀ H', Same H H' → Q (.int ((kR ns : Nat) : Int)) H'
theorem ok_number_of_report (T : Txt K mg) : FnOk P w K mg base CX0 2 T.messages.number_of_report.a T.messages.number_of_report.fd ["m"] (sp_number_of_report K) := by
 refine T.messages.number_of_report.F.ok sc_number_of_report (fun _ _ _ _ h => by obtain ⟨l, ns, rfl, _⟩ := h; rfl) (fun cdv A outer s H vs Q E hr h => ?_)
 obtain ⟨l, ns, rfl, hl, h8, k⟩ := h
 refine ⟨_, (pss_one (ps_ret (cG T.messages.number_from (ok_number_from T) hr (pa_cons (pe_slice (slK K) (pv 0) (po_some pe_int) po_none) pa_nil)))), ?_⟩
 try dsimp only [cxOf]
 walk_at "go"
 refine w_slL hl fun p hp => ?_
 rw [show cutV (natV ns) (some 5) none = natV (ns.drop 5) from natV_end (a := 5) (by omega)]
 walk_at "go"
 refine ⟨p, _, rfl, SqL.of upd_same, ?_⟩
 have e : numF (ns.drop 5) = kR ns := by
   obtain ⟨a, b, c, d, e, f, g, i, rfl⟩ := eight_of h8
   show 256 * (256 * (256 * 0 + i) + g) + f = f + 256 * g + 65536 * i
   omega
 rw [e]
 exact k _ (Same.new hp)
theorem sc_what_of : FnScope ["m"] ["m"] (defScope (top 44)) := fS
def sp_what_of (K : PySem.W.Frag) : Sp := fun vs H Q _ => ∃ (l : Addr) (ns : List Nat), vs = [.ref l] ∧ SqL K H l (natV ns) ∧ ns.length = 8 ∧ Q (.int ((ns.getD 1 0 : Nat) : Int)) H
theorem ok_what_of (T : Txt K mg) : FnOk P w K mg base CX0 1 T.messages.what_of.a T.messages.what_of.fd ["m"] (sp_what_of K) := by
 refine T.messages.what_of.F.ok sc_what_of (fun _ _ _ _ h => by obtain ⟨l, ns, rfl, _⟩ := h; rfl) (fun cdv A outer s H vs Q E hr h => ?_)
 obtain ⟨l, ns, rfl, hl, h8, k⟩ := h
 refine ⟨_, (pss_one (ps_ret (xL K (pv 0) pe_int))), ?_⟩
 try dsimp only [cxOf]
 walk_at "go"
 refine w_ixL hl (natV_at (i := 1) (by omega)) ?_
 exact k
theorem sc_state_told : FnScope ["m"] ["m"] (defScope (top 47)) := fS
def sp_state_told (K : PySem.W.Frag) : Sp := fun vs H Q _ => ∃ (l : Addr) (ns : List Nat), vs = [.ref l] ∧ SqL K H l (natV ns) ∧ ns.length = 8 ∧ ∀ p H', Same H H' → H p = none → H' p = some (.lst (natV [ns.getD 2 0, ns.getD 3 0, ns.getD 4 0])) → Q (.ref p) H'
theorem ok_state_told (T : Txt K mg) : FnOk P w K mg base CX0 1 T.messages.state_told.a T.messages.state_told.fd ["m"] (sp_state_told K) := by
 refine T.messages.state_told.F.ok sc_state_told (fun _ _ _ _ h => by obtain ⟨l, ns, rfl, _⟩ := h; rfl) (fun cdv A outer s H vs Q E hr h => ?_)
 obtain ⟨l, ns, rfl, hl, h8, k⟩ := h
 refine ⟨_, (pss_one (ps_ret (pe_slice (slK K) (pv 0) (po_some pe_int) (po_some pe_int)))), ?_⟩
 try dsimp only [cxOf]
 walk_at "go"
 refine w_slL hl fun p hp => ?_
 rw [show cutV (natV ns) (some 2) (some 5) = natV ((ns.drop 2).take (5 - 2)) from natV_cut (a := 2) (b := 5) (by decide) (by omega)]
 have e : (ns.drop 2).take (5 - 2) = [ns.getD 2 0, ns.getD 3 0, ns.getD 4 0] := by
   obtain ⟨a, b, c, d, e, f, g, i, rfl⟩ := eight_of h8
   rfl
 rw [e]
 exact k p _ (Same.new hp) hp upd_same
theorem sc_is_order_what : FnScope ["what"] ["what"] (defScope (top 43)) := fS
def sp_is_order_what (K : PySem.W.Frag) : Sp := fun vs H Q _ => ∃ (n : Nat), vs = [.int (n : Int)] ∧ ∀ H', Same H H' → Q (.bl (Sr41.isWhat n)) H'
theorem ok_is_order_what (T : Txt K mg) : FnOk P w K mg base CX0 1 T.messages.is_order_what.a T.messages.is_order_what.fd ["what"] (sp_is_order_what K) := by
 refine T.messages.is_order_what.F.ok sc_is_order_what (fun _ _ _ _ h => by obtain ⟨n, rfl, _⟩ := h; rfl) (fun cdv A outer s H vs Q E hr h => ?_)
 obtain ⟨n, rfl, k⟩ := h
 refine ⟨_, (pss_one (ps_ret (pe_cmpR (inK K) (pv 0) (pe_tup (pa_cons (pe_glob rfl T.messages.ALONGSIDE.g T.messages.ALONGSIDE.r) (pa_cons (pe_glob rfl T.messages.AWAY.g T.messages.AWAY.r) pa_nil))) (by with_unfolding_all rfl)))), ?_⟩
 try dsimp only [cxOf]
 walk_at "go"
 refine w_small (by show 2 ≤ 1000; decide) fun t ht => ?_
 refine w_in2 (SqT.of upd_same) ?_
 refine qbl (k _ (Same.new ht)) ?_
 unfold Sr41.isWhat
 rw [Bool.beq_eq_decide_eq, Bool.beq_eq_decide_eq, Bool.eq_iff_iff]
 simp only [Bool.or_eq_true, decide_eq_true_eq]
 omega
theorem sc_is_message : FnScope ["m", "first"] ["m", "first"] (defScope (top 41)) := fS
def sp_is_message (K : PySem.W.Frag) : Sp := fun vs H Q _ => ∃ (l : Addr) (ns : List Nat) (f : Nat), vs = [.ref l, .int (f : Int)] ∧ SqL K H l (natV ns) ∧ Q (.bl (isMs f ns)) H
theorem ok_is_message (T : Txt K mg) : FnOk P w K mg base CX0 1 T.messages.is_message.a T.messages.is_message.fd ["m", "first"] (sp_is_message K) := by
 refine T.messages.is_message.F.ok sc_is_message (fun _ _ _ _ h => by obtain ⟨l, ns, f, rfl, _⟩ := h; rfl) (fun cdv A outer s H vs Q E hr h => ?_)
 obtain ⟨l, ns, f, rfl, hl, k⟩ := h
 refine ⟨_, (pss_one (ps_ret (pe_and (pe_cmpR op_eq (pe_callB (lenK K) rfl T.n_len boot_len (pa_cons (pv 0) pa_nil)) (pe_glob rfl T.messages.MESSAGE_LENGTH.g T.messages.MESSAGE_LENGTH.r) (nomark _)) (pe_one (pe_cmpR op_eq (xL K (pv 0) pe_int) (pv 1) (nomark _)))))), ?_⟩
 try dsimp only [cxOf]
 walk_at "go"
 rw [natV_len]
 refine ite2 (fun q => ?_) (fun q => ?_)
 · have h8 : ns.length = 8 := by
     have := of_decide_eq_true q
     omega
   walk_at "go"
   refine w_ixL hl (natV_at (i := 0) (by omega)) ?_
   walk_at "go"
   refine qbl k ?_
   unfold isMs
   rw [decide_eq_true h8, Bool.true_and, Bool.eq_iff_iff, decide_eq_true_eq, decide_eq_true_eq]
   omega
 · refine qbl k ?_
   have h8 : ns.length ≠ 8 := fun e => q (decide_eq_true (by rw [e]; rfl))
   unfold isMs
   rw [decide_eq_false h8, Bool.false_and]
theorem sc_is_of_an_order : FnScope ["m"] ["m"] (defScope (top 42)) := fS
def sp_is_of_an_order (K : PySem.W.Frag) : Sp := fun vs H Q _ => ∃ (l : Addr) (ns : List Nat), vs = [.ref l] ∧ SqL K H l (natV ns) ∧ ns.length = 8 ∧ ∀ H', Same H H' → Q (.bl (isOf ns)) H'
theorem ok_is_of_an_order (T : Txt K mg) : FnOk P w K mg base CX0 3 T.messages.is_of_an_order.a T.messages.is_of_an_order.fd ["m"] (sp_is_of_an_order K) := by
 refine T.messages.is_of_an_order.F.ok sc_is_of_an_order (fun _ _ _ _ h => by obtain ⟨l, ns, rfl, _⟩ := h; rfl) (fun cdv A outer s H vs Q E hr h => ?_)
 obtain ⟨l, ns, rfl, hl, h8, k⟩ := h
 refine ⟨_, (pss_one (ps_ret (pe_and (cG T.messages.is_order_what (ok_is_order_what T) hr (pa_cons (xL K (pv 0) pe_int) pa_nil)) (pe_and (pe_cmpR op_ne (cG T.messages.number_of_order (ok_number_of_order T) hr (pa_cons (pv 0) pa_nil)) pe_int (nomark _)) (pe_one (pe_cmpR (eqK K hr.units) (pe_slice (slK K) (pv 0) (po_some pe_int) po_none) (pe_lst (pa_cons pe_int (pa_cons pe_int (pa_cons pe_int (pa_cons pe_int pa_nil))))) (nomark _))))))), ?_⟩
 try dsimp only [cxOf]
 walk_at "go"
 refine w_ixL hl (natV_at (i := 1) (by omega)) ?_
 walk_at "go"
 refine ⟨_, rfl, fun H1 s1 => ?_⟩
 walk_at "go"
 refine ite2 (fun q1 => ?_) (fun q1 => ?_)
 · walk_at "go"
   refine ⟨l, ns, rfl, s1.seq hl, h8, fun H2 s2 => ?_⟩
   walk_at "go"
   refine ite2 (fun q2 => ?_) (fun q2 => ?_)
   · walk_at "go"
     refine w_slL (s2.seq (s1.seq hl)) fun p hp => ?_
     rw [show cutV (natV ns) (some 4) none = natV (ns.drop 4) from natV_end (a := 4) (by omega)]
     walk_at "go"
     refine w_small (by show 4 ≤ 1000; decide) fun q hq => ?_
     have s3 : Same (upd H2 p (.lst (natV (ns.drop 4)))) (upd (upd H2 p (.lst (natV (ns.drop 4)))) q (.lst [.int 0, .int 0, .int 0, .int 0])) := Same.new hq
     obtain ⟨a, b, c, d, e, f, g, i, rfl⟩ := eight_of h8
     refine ⟨_, _, .lst (SqL.of (s3 _ _ upd_same)) (dps_nat _), .lst (SqL.of upd_same) (dps_nat [0, 0, 0, 0]), rfl, rfl, ?_⟩
     refine qbl (k _ ((s1.trans s2).trans ((Same.new hp).trans s3))) ?_
     refine Eq.trans ?_ (eqL4 _ _ _ _ _ _ _ _).symm
     have q2' : (!decide (kO [a, b, c, d, e, f, g, i] = 0)) = true := by
       rw [← nat0]
       exact q2
     unfold isOf
     rw [q1, q2', Bool.true_and, Bool.true_and]
     show decide ([e, f, g, i] = [0, 0, 0, 0]) = (decide ((e : Int) = 0) && (decide ((f : Int) = 0) && (decide ((g : Int) = 0) && decide ((i : Int) = 0))))
     rw [nat0, nat0, nat0, nat0, Bool.eq_iff_iff]
     simp only [List.cons.injEq, and_true, Bool.and_eq_true, decide_eq_true_eq]
   · refine qbl (k _ (s1.trans s2)) ?_
     rw [nat0, Bool.not_eq_true] at q2
     unfold isOf
     rw [q2, Bool.false_and, Bool.and_false]
 · refine qbl (k _ s1) ?_
   rw [Bool.not_eq_true] at q1
   unfold isOf
   rw [q1, Bool.false_and]
theorem sc_is_order : FnScope ["m"] ["m"] (defScope (top 38)) := fS
def sp_is_order (K : PySem.W.Frag) : Sp := fun vs H Q _ => ∃ (l : Addr) (ns : List Nat), vs = [.ref l] ∧ SqL K H l (natV ns) ∧ ∀ H', Same H H' → Q (.bl (isMs 1 ns && isOf ns)) H'
theorem ok_is_order (T : Txt K mg) : FnOk P w K mg base CX0 4 T.messages.is_order.a T.messages.is_order.fd ["m"] (sp_is_order K) := by
 refine T.messages.is_order.F.ok sc_is_order (fun _ _ _ _ h => by obtain ⟨l, ns, rfl, _⟩ := h; rfl) (fun cdv A outer s H vs Q E hr h => ?_)
 obtain ⟨l, ns, rfl, hl, k⟩ := h
 refine ⟨_, (pss_one (ps_ret (pe_and (cG T.messages.is_message (ok_is_message T) hr (pa_cons (pv 0) (pa_cons (pe_glob rfl T.messages.ORDER.g T.messages.ORDER.r) pa_nil))) (pe_one (cG T.messages.is_of_an_order (ok_is_of_an_order T) hr (pa_cons (pv 0) pa_nil)))))), ?_⟩
 try dsimp only [cxOf]
 walk_at "go"
 refine ⟨l, ns, 1, rfl, hl, ?_⟩
 walk_at "go"
 refine ite2 (fun q1 => ?_) (fun q1 => ?_)
 · walk_at "go"
   refine ⟨l, ns, rfl, hl, isMs_len q1, fun H1 s1 => ?_⟩
   walk_at "go"
   refine qbl (k _ s1) ?_
   rw [q1, Bool.true_and]
 · refine qbl (k _ (Same.refl H)) ?_
   rw [Bool.not_eq_true] at q1
   rw [q1, Bool.false_and]
theorem sc_is_answer : FnScope ["m"] ["m"] (defScope (top 39)) := fS
def sp_is_answer (K : PySem.W.Frag) : Sp := fun vs H Q _ => ∃ (l : Addr) (ns : List Nat), vs = [.ref l] ∧ SqL K H l (natV ns) ∧ ∀ H', Same H H' → Q (.bl (isMs 2 ns && isOf ns)) H'
theorem ok_is_answer (T : Txt K mg) : FnOk P w K mg base CX0 4 T.messages.is_answer.a T.messages.is_answer.fd ["m"] (sp_is_answer K) := by
 refine T.messages.is_answer.F.ok sc_is_answer (fun _ _ _ _ h => by obtain ⟨l, ns, rfl, _⟩ := h; rfl) (fun cdv A outer s H vs Q E hr h => ?_)
 obtain ⟨l, ns, rfl, hl, k⟩ := h
 refine ⟨_, (pss_one (ps_ret (pe_and (cG T.messages.is_message (ok_is_message T) hr (pa_cons (pv 0) (pa_cons (pe_glob rfl T.messages.ANSWER.g T.messages.ANSWER.r) pa_nil))) (pe_one (cG T.messages.is_of_an_order (ok_is_of_an_order T) hr (pa_cons (pv 0) pa_nil)))))), ?_⟩
 try dsimp only [cxOf]
 walk_at "go"
 refine ⟨l, ns, 2, rfl, hl, ?_⟩
 walk_at "go"
 refine ite2 (fun q1 => ?_) (fun q1 => ?_)
 · walk_at "go"
   refine ⟨l, ns, rfl, hl, isMs_len q1, fun H1 s1 => ?_⟩
   walk_at "go"
   refine qbl (k _ s1) ?_
   rw [q1, Bool.true_and]
 · refine qbl (k _ (Same.refl H)) ?_
   rw [Bool.not_eq_true] at q1
   rw [q1, Bool.false_and]
theorem sc_is_report : FnScope ["m"] ["m"] (defScope (top 40)) := fS
def sp_is_report (K : PySem.W.Frag) : Sp := fun vs H Q _ => ∃ (l : Addr) (ns : List Nat), vs = [.ref l] ∧ SqL K H l (natV ns) ∧ ∀ H', Same H H' → Q (.bl (isRp ns)) H'
theorem ok_is_report (T : Txt K mg) : FnOk P w K mg base CX0 3 T.messages.is_report.a T.messages.is_report.fd ["m"] (sp_is_report K) := by
 refine T.messages.is_report.F.ok sc_is_report (fun _ _ _ _ h => by obtain ⟨l, ns, rfl, _⟩ := h; rfl) (fun cdv A outer s H vs Q E hr h => ?_)
 obtain ⟨l, ns, rfl, hl, k⟩ := h
 refine ⟨_, (pss_cons (ps_if (PW.pt (pw_or (pt_not (pt_val (cG T.messages.is_message (ok_is_message T) hr (pa_cons (pv 0) (pa_cons (pe_glob rfl T.messages.REPORT.g T.messages.REPORT.r) pa_nil))))) (pw_or1 (pt_cmpR op_gt (xL K (pv 0) pe_int) (pe_glob rfl T.messages.GREATEST_WHAT.g T.messages.GREATEST_WHAT.r) (nomark _))))) (pss_one (ps_ret pe_bl)) pss_nil)
  (pss_cons (ps_if (PW.pt (pw_or (pt_cmpR op_gt (xL K (pv 0) pe_int) (pe_glob rfl T.messages.GREATEST_PLACE.g T.messages.GREATEST_PLACE.r) (nomark _)) (pw_or (pt_cmpR op_gt (xL K (pv 0) pe_int) (pe_glob rfl T.messages.GREATEST_PLACE.g T.messages.GREATEST_PLACE.r) (nomark _)) (pw_or1 (pt_cmpR op_ge (xL K (pv 0) pe_int) (pe_glob rfl T.motion.SPEED_COUNT.g T.motion.SPEED_COUNT.r) (nomark _)))))) (pss_one (ps_ret pe_bl)) pss_nil)
  (pss_one (ps_ret (pe_cmpR op_ne (cG T.messages.number_of_report (ok_number_of_report T) hr (pa_cons (pv 0) pa_nil)) pe_int (nomark _)))))), ?_⟩
 try dsimp only [cxOf]
 have no : ∀ {c : Bool}, isRp ns = c → ∀ H', Same H H' → Q (.bl c) H' := fun e H' s => e ▸ k H' s
 have r0 : Same H H := Same.refl H
 walk_at "go"
 refine ⟨l, ns, 3, rfl, hl, ?_⟩
 walk_at "go"
 cases q1 : isMs 3 ns with
 | false =>
   have e : isRp ns = false := by
     unfold isRp
     rw [q1, Bool.false_and]
   walk_at "go"
   exact no e _ r0
 | true =>
   have h8 := isMs_len q1
   have e0 : isRp ns = (decide (ns.getD 1 0 ≤ 5) && (decide (ns.getD 2 0 < 32) && (decide (ns.getD 3 0 < 32) && (decide (ns.getD 4 0 ≤ 48) && !decide (kR ns = 0))))) := by
     unfold isRp
     rw [q1, Bool.true_and]
   walk_at "go"
   refine w_ixL hl (natV_at (i := 1) (by omega)) ?_
   walk_at "go"
   refine ite2 (fun q2 => ?_) (fun q2 => ?_)
   · walk_at "go"
     refine no ?_ _ r0
     have := of_decide_eq_true q2
     rw [e0, decide_eq_false (by omega), Bool.false_and]
   · have q2 : ns.getD 1 0 ≤ 5 := by
       have := of_decide_eq_false (Bool.eq_false_iff.mpr q2)
       omega
     walk_at "go"
     refine w_ixL hl (natV_at (i := 2) (by omega)) ?_
     walk_at "go"
     refine ite2 (fun q3 => ?_) (fun q3 => ?_)
     · walk_at "go"
       refine no ?_ _ r0
       have := of_decide_eq_true q3
       rw [e0, decide_eq_false (p := ns.getD 2 0 < 32) (by omega), Bool.false_and, Bool.and_false]
     · have q3 : ns.getD 2 0 < 32 := by
         have := of_decide_eq_false (Bool.eq_false_iff.mpr q3)
         omega
       walk_at "go"
       refine w_ixL hl (natV_at (i := 3) (by omega)) ?_
       walk_at "go"
       refine ite2 (fun q4 => ?_) (fun q4 => ?_)
       · walk_at "go"
         refine no ?_ _ r0
         have := of_decide_eq_true q4
         rw [e0, decide_eq_false (p := ns.getD 3 0 < 32) (by omega), Bool.false_and, Bool.and_false, Bool.and_false]
       · have q4 : ns.getD 3 0 < 32 := by
           have := of_decide_eq_false (Bool.eq_false_iff.mpr q4)
           omega
         walk_at "go"
         refine w_ixL hl (natV_at (i := 4) (by omega)) ?_
         walk_at "go"
         refine ite2 (fun q5 => ?_) (fun q5 => ?_)
         · walk_at "go"
           refine no ?_ _ r0
           have := of_decide_eq_true q5
           rw [e0, decide_eq_false (p := ns.getD 4 0 ≤ 48) (by omega), Bool.false_and, Bool.and_false, Bool.and_false, Bool.and_false]
         · have q5 : ns.getD 4 0 ≤ 48 := by
             have := of_decide_eq_false (Bool.eq_false_iff.mpr q5)
             omega
           walk_at "go"
           refine ⟨l, ns, rfl, hl, h8, fun H1 s1 => ?_⟩
           walk_at "go"
           refine no ?_ _ s1
           rw [e0, decide_eq_true q2, decide_eq_true q3, decide_eq_true q4, decide_eq_true q5, nat0]
           rfl
theorem sc_of_an_order : FnScope ["first", "what", "number"] ["first", "what", "number"] (defScope (top 50)) := fS
def sp_of_an_order (K : PySem.W.Frag) : Sp := fun vs H Q _ => ∃ (f w k : Nat), vs = [.int (f : Int), .int (w : Int), .int (k : Int)] ∧ ∀ p H', Same H H' → H p = none → H' p = some (.lst (natV ([f, w] ++ Sr41.two k ++ [0, 0, 0, 0]))) → Q (.ref p) H'
theorem ok_of_an_order (T : Txt K mg) : FnOk P w K mg base CX0 2 T.messages.of_an_order.a T.messages.of_an_order.fd ["first", "what", "number"] (sp_of_an_order K) := by
 refine T.messages.of_an_order.F.ok sc_of_an_order (fun _ _ _ _ h => by obtain ⟨f, w, n, rfl, _⟩ := h; rfl) (fun cdv A outer s H vs Q E hr h => ?_)
 obtain ⟨f, w, n, rfl, k⟩ := h
 refine ⟨_, (pss_one (ps_ret (pe_op op_cat (pe_op op_cat (pe_lst (pa_cons (pv 0) (pa_cons (pv 1) pa_nil))) (cG T.messages.low_first (ok_low_first T) hr (pa_cons (pv 2) (pa_cons pe_int pa_nil)))) (pe_lst (pa_cons pe_int (pa_cons pe_int (pa_cons pe_int (pa_cons pe_int pa_nil)))))))), ?_⟩
 try dsimp only [cxOf]
 walk_at "go"
 refine w_small (by show 2 ≤ 1000; decide) fun p1 hp1 => ?_
 walk_at "go"
 refine ⟨n, 2, rfl, by decide, fun p2 H2 s2 hp2 e2 => ?_⟩
 have s1 : Same H (upd H p1 (.lst (natV [f, w]))) := Same.new hp1
 walk_at "go"
 refine w_cat (s2 _ _ upd_same) e2 (by rw [lowV_len]; show 2 + 2 ≤ 1000; decide) fun p3 hp3 => ?_
 walk_at "go"
 refine w_small (by show 4 ≤ 1000; decide) fun p4 hp4 => ?_
 walk_at "go"
 have s3 := Same.new (o := .lst ([V.int (f : Int), V.int (w : Int)] ++ lowV n 2)) hp3
 have s4 := Same.new (o := .lst [V.int 0, V.int 0, V.int 0, V.int 0]) hp4
 have s14 := ((s1.trans s2).trans s3).trans s4
 refine w_cat (s4 _ _ upd_same) upd_same (by rw [List.length_append, lowV_len]; show 2 + 2 + 4 ≤ 1000; decide) fun p5 hp5 => ?_
 refine k p5 _ (s14.trans (Same.new hp5)) (s14.free hp5) ?_
 rw [upd_same, low2, natV_app, natV_app]
 rfl
theorem sc_order_to : FnScope ["what", "number"] ["what", "number"] (defScope (top 48)) := fS
def sp_order_to (K : PySem.W.Frag) : Sp := fun vs H Q _ => ∃ (w k : Nat), vs = [.int (w : Int), .int (k : Int)] ∧ ∀ p H', Same H H' → H p = none → H' p = some (.lst (natV (Sr41.bytesOf (.order w k)))) → Q (.ref p) H'
theorem ok_order_to (T : Txt K mg) : FnOk P w K mg base CX0 3 T.messages.order_to.a T.messages.order_to.fd ["what", "number"] (sp_order_to K) := by
 refine T.messages.order_to.F.ok sc_order_to (fun _ _ _ _ h => by obtain ⟨w, n, rfl, _⟩ := h; rfl) (fun cdv A outer s H vs Q E hr h => ?_)
 obtain ⟨w, n, rfl, k⟩ := h
 refine ⟨_, (pss_one (ps_ret (cG T.messages.of_an_order (ok_of_an_order T) hr (pa_cons (pe_glob rfl T.messages.ORDER.g T.messages.ORDER.r) (pa_cons (pv 0) (pa_cons (pv 1) pa_nil)))))), ?_⟩
 try dsimp only [cxOf]
 walk_at "go"
 exact ⟨1, w, n, rfl, k⟩
theorem sc_answer_to : FnScope ["what", "number"] ["what", "number"] (defScope (top 49)) := fS
def sp_answer_to (K : PySem.W.Frag) : Sp := fun vs H Q _ => ∃ (w k : Nat), vs = [.int (w : Int), .int (k : Int)] ∧ ∀ p H', Same H H' → H p = none → H' p = some (.lst (natV (Sr41.bytesOf (.answer w k)))) → Q (.ref p) H'
theorem ok_answer_to (T : Txt K mg) : FnOk P w K mg base CX0 3 T.messages.answer_to.a T.messages.answer_to.fd ["what", "number"] (sp_answer_to K) := by
 refine T.messages.answer_to.F.ok sc_answer_to (fun _ _ _ _ h => by obtain ⟨w, n, rfl, _⟩ := h; rfl) (fun cdv A outer s H vs Q E hr h => ?_)
 obtain ⟨w, n, rfl, k⟩ := h
 refine ⟨_, (pss_one (ps_ret (cG T.messages.of_an_order (ok_of_an_order T) hr (pa_cons (pe_glob rfl T.messages.ANSWER.g T.messages.ANSWER.r) (pa_cons (pv 0) (pa_cons (pv 1) pa_nil)))))), ?_⟩
 try dsimp only [cxOf]
 walk_at "go"
 exact ⟨2, w, n, rfl, k⟩
theorem sc_report_of : FnScope ["what", "state", "number"] ["what", "state", "number"] (defScope (top 51)) := fS
def sp_report_of (K : PySem.W.Frag) : Sp := fun vs H Q _ => ∃ (a : Addr) (w k : Nat) (s : Sr40.State), vs = [.int (w : Int), .ref a, .int (k : Int)] ∧ StT K H a s ∧ 0 ≤ s.x ∧ 0 ≤ s.y ∧ 0 ≤ 7 * (s.vx + 3) + s.vy + 3 ∧ ∀ p H', Same H H' → H p = none → H' p = some (.lst (natV (Sr41.bytesOf (.report w s.x.toNat s.y.toNat (Sr41.speed s) k)))) → Q (.ref p) H'
theorem ok_report_of (T : Txt K mg) : FnOk P w K mg base CX0 2 T.messages.report_of.a T.messages.report_of.fd ["what", "state", "number"] (sp_report_of K) := by
 refine T.messages.report_of.F.ok sc_report_of (fun _ _ _ _ h => by obtain ⟨a, w, n, s, rfl, _⟩ := h; rfl) (fun cdv A outer s H vs Q E hr h => ?_)
 obtain ⟨a, w, n, s, rfl, ha, hx, hy, hv, k⟩ := h
 refine ⟨_, (pss_one (ps_ret (pe_op op_cat (pe_lst (pa_cons (pe_glob rfl T.messages.REPORT.g T.messages.REPORT.r) (pa_cons (pv 0) (pa_cons (xT K (pv 1) pe_int) (pa_cons (xT K (pv 1) pe_int) (pa_cons (cG T.motion.speed_number (ok_speed_number T) hr (pa_cons (xT K (pv 1) pe_int) (pa_cons (xT K (pv 1) pe_int) pa_nil))) pa_nil)))))) (cG T.messages.low_first (ok_low_first T) hr (pa_cons (pv 2) (pa_cons pe_int pa_nil)))))), ?_⟩
 try dsimp only [cxOf]
 have ha : SqT K H a [.int s.x, .int s.y, .int s.vx, .int s.vy] := ha
 walk_at "go"
 refine ⟨_, _, rfl, ?_⟩
 walk_at "go"
 refine w_small (by show 5 ≤ 1000; decide) fun p1 hp1 => ?_
 walk_at "go"
 refine ⟨n, 3, rfl, by decide, fun p2 H2 s2 hp2 e2 => ?_⟩
 have s1 := Same.new (o := .lst [V.int 3, .int (w : Int), .int s.x, .int s.y, .int (7 * (s.vx + 3) + s.vy + 3)]) hp1
 walk_at "go"
 refine w_cat (s2 _ _ upd_same) e2 (by rw [lowV_len]; show 5 + 3 ≤ 1000; decide) fun p3 hp3 => ?_
 refine k p3 _ ((s1.trans s2).trans (Same.new hp3)) ((s1.trans s2).free hp3) ?_
 rw [upd_same, low3]
 show some (HO.lst ([V.int 3, .int (w : Int), .int s.x, .int s.y, .int (7 * (s.vx + 3) + s.vy + 3)] ++ natV (Sr41.three n))) = some (HO.lst ([V.int 3, .int (w : Int), .int (s.x.toNat : Int), .int (s.y.toNat : Int), .int ((Sr41.speed s : Nat) : Int)] ++ natV (Sr41.three n)))
 unfold Sr41.speed
 rw [Int.toNat_of_nonneg hx, Int.toNat_of_nonneg hy, Int.toNat_of_nonneg hv]
theorem sc_report_without_state : FnScope ["what", "number"] ["what", "number"] (defScope (top 52)) := fS
def sp_report_without_state (K : PySem.W.Frag) : Sp := fun vs H Q _ => ∃ (w k : Nat), vs = [.int (w : Int), .int (k : Int)] ∧ ∀ p H', Same H H' → H p = none → H' p = some (.lst (natV (Sr41.bytesOf (.report w 0 0 0 k)))) → Q (.ref p) H'
theorem ok_report_without_state (T : Txt K mg) : FnOk P w K mg base CX0 2 T.messages.report_without_state.a T.messages.report_without_state.fd ["what", "number"] (sp_report_without_state K) := by
 refine T.messages.report_without_state.F.ok sc_report_without_state (fun _ _ _ _ h => by obtain ⟨w, n, rfl, _⟩ := h; rfl) (fun cdv A outer s H vs Q E hr h => ?_)
 obtain ⟨w, n, rfl, k⟩ := h
 refine ⟨_, (pss_one (ps_ret (pe_op op_cat (pe_lst (pa_cons (pe_glob rfl T.messages.REPORT.g T.messages.REPORT.r) (pa_cons (pv 0) (pa_cons pe_int (pa_cons pe_int (pa_cons pe_int pa_nil)))))) (cG T.messages.low_first (ok_low_first T) hr (pa_cons (pv 1) (pa_cons pe_int pa_nil)))))), ?_⟩
 try dsimp only [cxOf]
 walk_at "go"
 refine w_small (by show 5 ≤ 1000; decide) fun p1 hp1 => ?_
 walk_at "go"
 refine ⟨n, 3, rfl, by decide, fun p2 H2 s2 hp2 e2 => ?_⟩
 have s1 := Same.new (o := .lst [V.int 3, .int (w : Int), .int 0, .int 0, .int 0]) hp1
 walk_at "go"
 refine w_cat (s2 _ _ upd_same) e2 (by rw [lowV_len]; show 5 + 3 ≤ 1000; decide) fun p3 hp3 => ?_
 refine k p3 _ ((s1.trans s2).trans (Same.new hp3)) ((s1.trans s2).free hp3) ?_
 rw [upd_same, low3]
 rfl
end
section
variable {P : Program} {w : World} {K : PySem.W.Frag} {mg : Str → Option Value} {base : Heap}
theorem SameX.free {p l : Addr} {H H' : Hp} {o : HO} (s : SameX p H H') (hp : H' p = some o) (hl : H' l = none) : H l = none := by
 cases q : H l with
 | none => rfl
 | some u =>
   by_cases e : l = p
   · rw [e, hp] at hl
     cases hl
   · rw [s l u q e] at hl
     cases hl
theorem st_step {H : Hp} {C a dx : Addr} {fs : List (Str × V)} {f : Str} {y : V} {n : Nat} {R : Hp → Prop} (h : H a = some (.ins C dx fs)) (c : Cls K C) (na : NoAttr K C f) (l : fs.length ≤ n) (hn : n < 900) (q : ∀ H', H' a = some (.ins C dx (putF f y fs)) → (putF f y fs).length ≤ n + 1 → SameX a H H' → R H') : SFldR K f (.ref a) y H R :=
 w_sfldR h c na (by omega) (q _ upd_same (Nat.le_trans putF_len (by omega)) (SameX.set (SPx.Same.x (Same.refl H))))
theorem SameX.refl (p : Addr) (H : Hp) : SameX p H H := fun _ _ e _ => e
def intV (l : List Int) : List V := l.map V.int
theorem intV_len (l : List Int) : (intV l).length = l.length := List.length_map _
theorem intV_ints (ns : List Nat) : intV (Sr41Neutral.ints ns) = natV ns := by
 unfold intV Sr41Neutral.ints natV
 rw [List.map_map]
 rfl
theorem intV_app (a b : List Int) : intV (a ++ b) = intV a ++ intV b := List.map_append
theorem intV_nats {l : List Int} (h : ∀ z ∈ l, 0 ≤ z) : intV l = natV (Sr41Neutral.nats l) := by
 unfold intV natV Sr41Neutral.nats
 rw [List.map_map]
 refine List.map_congr_left fun z hz => ?_
 show V.int z = V.int (z.toNat : Int)
 rw [Int.toNat_of_nonneg (h z hz)]
def tickA (s : Sr40.State) (w : Nat) (b : Sr40.Burn) (k : Nat) : List Int := Sr41Neutral.given (.num (w : Int)) ++ (Sr41.told s w b k).flatMap Sr41Neutral.told
theorem tickA_0 (s : Sr40.State) (w k : Nat) : intV (tickA s w ⟨0, 0⟩ k) = [.int (w : Int)] ++ (.int 1 :: natV (Sr41.bytesOf (Sr41.report w s k))) := by
 have e : tickA s w ⟨0, 0⟩ k = (w : Int) :: 1 :: Sr41Neutral.ints (Sr41.bytesOf (Sr41.report w s k)) := by
   show [(w : Int)] ++ ([] ++ ((1 :: Sr41Neutral.ints (Sr41.bytesOf (Sr41.report w s k))) ++ [])) = _
   rw [List.append_nil]
   rfl
 rw [e, ← intV_ints]
 rfl
theorem tickA_1 (s : Sr40.State) (w : Nat) {b : Sr40.Burn} (hb : b ≠ ⟨0, 0⟩) (k : Nat) : intV (tickA s w b k) = [.int (w : Int), .int 0, .int b.a, .int b.b] ++ (.int 1 :: natV (Sr41.bytesOf (Sr41.report w s k))) := by
 have e : tickA s w b k = (w : Int) :: 0 :: b.a :: b.b :: 1 :: Sr41Neutral.ints (Sr41.bytesOf (Sr41.report w s k)) := by
   unfold tickA Sr41.told
   rw [if_neg hb]
   show [(w : Int)] ++ ([] ++ ([0, b.a, b.b] ++ ((1 :: Sr41Neutral.ints (Sr41.bytesOf (Sr41.report w s k))) ++ []))) = _
   rw [List.append_nil]
   rfl
 rw [e, ← intV_ints]
 rfl
theorem rep_len (w : Nat) (s : Sr40.State) (k : Nat) : (natV (Sr41.bytesOf (Sr41.report w s k))).length = 8 := by
 unfold Sr41.report
 split <;> rfl
theorem rep_len1 (w : Nat) (s : Sr40.State) (k : Nat) : (V.int 1 :: natV (Sr41.bytesOf (Sr41.report w s k))).length = 9 := by
 rw [List.length_cons, rep_len]
open Sr41Neutral in
theorem does_ticks (r : Sr41.Craft) (s : Sr40.State) (t : Nat) : doesF { r with ticks := t } s = (doesF r s).map fun y => (y.1, y.2.1, { y.2.2 with ticks := t }) := by
 unfold doesF
 have e : countsB { r with ticks := t } s = countsB r s := rfl
 rw [e]
 dsimp only
 by_cases h1 : r.map.there s = true
 · rw [if_pos h1, if_pos h1]
   rfl
 rw [if_neg h1, if_neg h1]
 by_cases h2 : r.map.here s = false
 · rw [if_pos h2, if_pos h2]
   rfl
 rw [if_neg h2, if_neg h2]
 by_cases h3 : r.mode = 0
 · rw [if_pos h3, if_pos h3]
   rfl
 rw [if_neg h3, if_neg h3]
 by_cases h4 : r.mode = 2
 · rw [if_pos h4, if_pos h4]
   cases reckonOn r.map (.away s) with
   | none => rfl
   | some a =>
     cases a with
     | num v =>
       dsimp only
       by_cases h5 : v = -61
       · rw [if_pos h5, if_pos h5]
         rfl
       · rw [if_neg h5, if_neg h5]
         rfl
     | burn v b => rfl
 rw [if_neg h4, if_neg h4]
 by_cases h5 : r.mode = 1
 · rw [if_pos h5, if_pos h5]
   cases countsB r s with
   | none => rfl
   | some c =>
     cases c with
     | none => rfl
     | some c =>
       dsimp only
       cases reckonOn r.map (.burn s c) with
       | none => rfl
       | some a => cases a <;> rfl
 · rw [if_neg h5, if_neg h5]
   rfl
theorem does_tick {r r2 : Sr41.Craft} {s : Sr40.State} {t w : Nat} {b : Sr40.Burn} (h : Sr41Neutral.doesF { r with ticks := t } s = some (w, b, r2)) : ∃ r', Sr41Neutral.doesF r s = some (w, b, r') ∧ r2 = { r' with ticks := t } := by
 rw [does_ticks] at h
 cases q : Sr41Neutral.doesF r s with
 | none =>
   rw [q] at h
   cases h
 | some y =>
   rw [q] at h
   cases h
   exact ⟨_, rfl, rfl⟩
theorem dir_small (d : Nat) : -1 ≤ Sr40.dx d ∧ Sr40.dx d ≤ 1 ∧ -1 ≤ Sr40.dy d ∧ Sr40.dy d ≤ 1 := by
 unfold Sr40.dx Sr40.dy
 split <;> split <;> omega
theorem does_where {r r' : Sr41.Craft} {s : Sr40.State} {w : Nat} {b : Sr40.Burn} (h : Sr41Neutral.doesF r s = some (w, b, r')) (hw : w ≠ 4) : 0 ≤ s.x ∧ 0 ≤ s.y ∧ 0 ≤ 7 * (s.vx + 3) + s.vy + 3 := by
 by_cases h1 : r.map.there s = true
 · unfold Sr40.Map_.there Sr40.Map_.soft at h1
   simp only [Bool.and_eq_true, beq_iff_eq] at h1
   have := dir_small r.map.dir
   omega
 by_cases h2 : r.map.here s = false
 · rw [does_gone (by simpa using h1) h2] at h
   cases h
   exact absurd rfl hw
 · have h2 : r.map.here s = true := by simpa using h2
   obtain ⟨hf, hs⟩ := here_of h2
   unfold InFd at hf
   obtain ⟨a1, a2, a3, a4⟩ := hs
   omega
theorem fc_tick {T : Txt K mg} {H : Hp} {p : Addr} {x : Cr} {σ : L2.St} {R : Hp → Prop} (h : CraftAt T H p x) (q : ∀ H', CraftAt T H' p { x with tk := x.tk + 1 } → SameX p H H' → R H') : FAugR K "tick_count" (.ref p) H (tC (.int 1) σ) rAdd R := by
 obtain ⟨dx, e⟩ := h
 exact w_faugI e T.craft.Craft.C T.craft.Craft.na.2.2.2.1 rfl (show 9 < 1000 by decide) (q _ ⟨dx, upd_same⟩ (SameX.set (SameX.refl p H)))
def hC (r : Sr41.Craft) (ns : List Nat) : Sr41.Craft × List Int := match Sr41.messageOf ns with
 | some (.order w k) => if r.order < k then ({ r.nothing with mode := w, order := k }, 0 :: 1 :: Sr41Neutral.ints (Sr41.bytesOf (.answer w k)))
   else if k = r.order then (r, 0 :: 1 :: Sr41Neutral.ints (Sr41.bytesOf (.answer r.mode r.order))) else (r, [0])
 | _ => (r, [-71])
theorem hC_not {r : Sr41.Craft} {ns : List Nat} (h : (isMs 1 ns && isOf ns) = false) : hC r ns = (r, [-71]) := by
 unfold hC
 rw [msg_of, if_neg (by rw [h]; simp)]
 split
 · rename_i e
   split at e
   · cases e
   · split at e <;> cases e
 · rfl
theorem hC_order {r : Sr41.Craft} {ns : List Nat} (h : (isMs 1 ns && isOf ns) = true) : hC r ns = if r.order < kO ns then ({ r.nothing with mode := ns.getD 1 0, order := kO ns }, 0 :: 1 :: Sr41Neutral.ints (Sr41.bytesOf (.answer (ns.getD 1 0) (kO ns))))
   else if kO ns = r.order then (r, 0 :: 1 :: Sr41Neutral.ints (Sr41.bytesOf (.answer r.mode r.order))) else (r, [0]) := by
 unfold hC
 rw [msg_of, if_pos h]
theorem sc_Craft_begin : FnScope ["self", "chart"] ["self", "chart"] (defScope (inClass (top 83) 1)) := fS
def sp_Craft_begin (T : Txt K mg) : Sp := fun vs H Q _ => ∃ (p dx : Addr) (fs : List (Str × V)) (v : V), vs = [.ref p, v] ∧ H p = some (.ins T.craft.Craft.A dx fs) ∧ (fs = [] ∨ ∃ x : Cr, fs = x.fs) ∧ ∀ H', CraftAt T H' p ⟨v, 0, 0, 0, .non, 0, .non, .non, .non⟩ → SameX p H H' → Q .non H'
theorem ok_Craft_begin (T : Txt K mg) : FnOk P w K mg base CX0 2 T.craft.Craft_begin.a T.craft.Craft_begin.fd ["self", "chart"] (sp_Craft_begin T) := by
 refine T.craft.Craft_begin.F.ok sc_Craft_begin (fun _ _ _ _ h => by obtain ⟨p, dx, fs, v, rfl, _⟩ := h; rfl) (fun cdv A outer s H vs Q E hr h => ?_)
 obtain ⟨p, dx, fs, v, rfl, hp, hfs, k⟩ := h
 refine ⟨_, (pss_cons (sfldK K (pv 0) (pv 1) rfl)
  (pss_cons (sfldK K (pv 0) pe_int rfl)
  (pss_cons (sfldK K (pv 0) pe_int rfl)
  (pss_cons (sfldK K (pv 0) pe_int rfl)
  (pss_cons (ps_expr (pe_meth0 (pv 0) T.craft.Craft.C T.craft.Craft_expect_nothing.m (ok_Craft_expect_nothing T) (hr.mono (by decide)) T.craft.Craft_expect_nothing.b .nil pass0))
  (pss_cons (sfldK K (pv 0) pe_non rfl)
  (pss_cons (sfldK K (pv 0) pe_non rfl)
  (pss_one (sfldK K (pv 0) pe_non rfl))))))))), ?_⟩
 try dsimp only [cxOf]
 have hl : fs.length ≤ 9 := by
   rcases hfs with rfl | ⟨x, rfl⟩
   · exact Nat.zero_le _
   · exact Nat.le_refl 9
 have hE : List.lookup ("expect_nothing" : Str) (putF "tick_count" (V.int 0) (putF "last_order" (V.int 0) (putF "mode" (V.int 0) (putF "chart" v fs)))) = none := by
   rcases hfs with rfl | ⟨x, rfl⟩
   · rfl
   · rfl
 walk_at "go"
 refine st_step hp T.craft.Craft.C T.craft.Craft.na.1 hl (by omega) fun H1 h1 l1 s1 => ?_
 walk_at "go"
 refine st_step h1 T.craft.Craft.C T.craft.Craft.na.2.1 l1 (by omega) fun H2 h2 l2 s2 => ?_
 walk_at "go"
 refine st_step h2 T.craft.Craft.C T.craft.Craft.na.2.2.1 l2 (by omega) fun H3 h3 l3 s3 => ?_
 walk_at "go"
 refine st_step h3 T.craft.Craft.C T.craft.Craft.na.2.2.2.1 l3 (by omega) fun H4 h4 l4 s4 => ?_
 walk_at "go"
 refine w_methR h4 hE ?_
 walk_at "go"
 refine ⟨p, dx, _, rfl, h4, by omega, fun H5 h5 s5 => ?_⟩
 have l5 : (putF "misfires" (V.int 0) (putF "expected" V.non (putF "tick_count" (V.int 0) (putF "last_order" (V.int 0) (putF "mode" (V.int 0) (putF "chart" v fs)))))).length ≤ 20 := Nat.le_trans putF_len (Nat.succ_le_succ (Nat.le_trans putF_len (by omega)))
 walk_at "go"
 refine st_step h5 T.craft.Craft.C T.craft.Craft.na.2.2.2.2.1 l5 (by omega) fun H6 h6 l6 s6 => ?_
 walk_at "go"
 refine st_step h6 T.craft.Craft.C T.craft.Craft.na.2.2.2.2.2.1 l6 (by omega) fun H7 h7 l7 s7 => ?_
 walk_at "go"
 refine st_step h7 T.craft.Craft.C T.craft.Craft.na.2.2.2.2.2.2.1 l7 (by omega) fun H8 h8 l8 s8 => ?_
 refine k H8 ⟨dx, ?_⟩ (((((((s1.trans s2).trans s3).trans s4).trans s5).trans s6).trans s7).trans s8)
 rcases hfs with rfl | ⟨x, rfl⟩
 · exact h8
 · exact h8
theorem sc_Craft_init : FnScope ["self"] ["self"] (defScope (inClass (top 83) 0)) := fS
def sp_Craft_init (T : Txt K mg) : Sp := fun vs H Q _ => ∃ (p dx : Addr), vs = [.ref p] ∧ H p = some (.ins T.craft.Craft.A dx []) ∧ ∀ H', CraftAt T H' p ⟨.non, 0, 0, 0, .non, 0, .non, .non, .non⟩ → SameX p H H' → Q .non H'
theorem ok_Craft_init (T : Txt K mg) : FnOk P w K mg base CX0 3 T.craft.Craft_init.a T.craft.Craft_init.fd ["self"] (sp_Craft_init T) := by
 refine T.craft.Craft_init.F.ok sc_Craft_init (fun _ _ _ _ h => by obtain ⟨p, dx, rfl, _⟩ := h; rfl) (fun cdv A outer s H vs Q E hr h => ?_)
 obtain ⟨p, dx, rfl, hp, k⟩ := h
 refine ⟨_, (pss_one (ps_expr (pe_meth (pv 0) T.craft.Craft.C T.craft.Craft_begin.m (ok_Craft_begin T) (hr.mono (by decide)) T.craft.Craft_begin.b .nil pass0 (pa_cons pe_non pa_nil)))), ?_⟩
 try dsimp only [cxOf]
 walk_at "go"
 refine w_methR hp rfl ?_
 walk_at "go"
 exact ⟨p, dx, _, _, rfl, hp, .inl rfl, fun H1 h1 s1 => k H1 h1 s1⟩
theorem sc_Craft_start : FnScope ["self", "numbers", "row", "boxes"] ["self", "numbers", "row"] (defScope (inClass (top 83) 3)) := fS
def sp_Craft_start (T : Txt K mg) : Sp := fun vs H Q _ => ∃ (p nb r : Addr) (x : Cr) (w h d px py n1 n2 : Nat) (ns : List Int), vs = [.ref p, .ref nb, .ref r] ∧ CraftAt T H p x ∧ SqL K H nb [.int (w : Int), .int (h : Int), .int (d : Int), .int (px : Int), .int (py : Int), .int (n1 : Int), .int (n2 : Int)] ∧ SqL K H r (intV ns) ∧ ns.length % 4 = 0 ∧ ns.length ≤ 36 ∧
 (Sr40.good ⟨w, h, d, px, py, [n1, n2], Sr41Neutral.boxes ns⟩ = true → ∀ H' l x', CraftIs T H' p x' (Sr41.startC ⟨w, h, d, px, py, [n1, n2], Sr41Neutral.boxes ns⟩) → SameX p H H' → H l = none → H' l = some (.lst [.int 0]) → Q (.ref l) H') ∧ (Sr40.good ⟨w, h, d, px, py, [n1, n2], Sr41Neutral.boxes ns⟩ = false → ∀ H' l, Same H H' → H l = none → H' l = some (.lst [.int (-22)]) → Q (.ref l) H')
theorem ok_Craft_start (T : Txt K mg) : FnOk P w K mg base CX0 6 T.craft.Craft_start.a T.craft.Craft_start.fd ["self", "numbers", "row"] (sp_Craft_start T) := by
 refine T.craft.Craft_start.F.ok sc_Craft_start (fun _ _ _ _ h => by obtain ⟨p, nb, r, x, w, h, d, px, py, n1, n2, ns, rfl, _⟩ := h; rfl) (fun cdv A outer s H vs Q E hr h => ?_)
 obtain ⟨p, nb, r, x, w, h, d, px, py, n1, n2, ns, rfl, hx, hn, hr0, h4, h36, k1, k2⟩ := h
 refine ⟨_, (pss_cons (sA 3 sc_Craft_start.nd (cG T.chart.boxes_in (ok_boxes_in T) hr (pa_cons (pv 2) pa_nil)))
  (pss_cons (ps_if (pt_not (pt_val (cG T.chart.is_chart_as_told (ok_is_chart_as_told T) hr (pa_cons (pv 1) (pa_cons (pv 3) pa_nil))))) (pss_one (ps_ret (pe_lst (pa_cons (pe_glob rfl T.messages.NOT_AS_TOLD.g T.messages.NOT_AS_TOLD.r) pa_nil)))) pss_nil)
  (pss_cons (ps_expr (pe_meth (pv 0) T.craft.Craft.C T.craft.Craft_begin.m (ok_Craft_begin T) (hr.mono (by decide)) T.craft.Craft_begin.b .nil pass0 (pa_cons (pe_make T.chart.Chart_init.M (ok_Chart_init T) (hr.mono (by decide)) rfl T.chart.Chart.c T.chart.Chart_init.b .nil pass0 (pa_cons (pv 1) (pa_cons (pv 3) pa_nil))) pa_nil)))
  (pss_one (ps_ret (pe_lst (pa_cons pe_int pa_nil))))))), ?_⟩
 try dsimp only [cxOf]
 walk_at "go"
 refine ⟨r, ns, rfl, hr0, h4, h36, fun bl H1 xs s1 hbl hbn hbs => ?_⟩
 have hB : BoxL K H1 bl (Sr41Neutral.boxes ns) := ⟨xs, SqL.of hbl, hbs⟩
 have hb100 : (Sr41Neutral.boxes ns).length ≤ 100 := by
   have := (boxes_of (ns.length / 4) ns (by omega)).1
   omega
 walk_at "go"
 refine ⟨nb, bl, w, h, d, px, py, n1, n2, Sr41Neutral.boxes ns, rfl, s1.seq hn, hB, hb100, fun H2 s2 => ?_⟩
 have s12 := s1.trans s2
 cases hg : Sr40.good ⟨w, h, d, px, py, [n1, n2], Sr41Neutral.boxes ns⟩ with
 | false =>
   walk_at "go"
   refine w_small (by show 1 ≤ 1000; decide) fun l hl => ?_
   exact k2 hg _ l (s12.trans (Same.new hl)) (s12.free hl) upd_same
 | true =>
   have g := good_of hg
   walk_at "go"
   have hx2 := hx.mono s12
   obtain ⟨dx, hpx⟩ := id hx2
   refine CraftAt.meth hx2 rfl ?_
   walk_at "go"
   intro c cx nc ncx ne
   have s3 : Same H2 (upd (upd H2 cx (.own c)) c (.ins T.chart.Chart.A cx [])) := (Same.new ncx).trans (Same.new (by rw [upd_ne ne.symm]; exact nc))
   refine ⟨c, cx, nb, bl, w, h, d, px, py, n1, n2, Sr41Neutral.boxes ns, rfl, upd_same, s3.seq (s12.seq hn), (hB.mono s2).mono s3, g.w2, g.h2, g.dir, fun H3 f hd pt hC keep => ⟨rfl, ?_⟩⟩
   have s03 : Same H2 H3 := Same.made nc ncx keep
   have hx3 := hx2.mono s03
   walk_at "go"
   refine ⟨p, dx, _, .ref c, rfl, s03 _ _ hpx, .inr ⟨x, rfl⟩, fun H4 hx4 s4 => ?_⟩
   have sS := s4.s hx3
   walk_at "go"
   refine w_small (by show 1 ≤ 1000; decide) fun l hl => ?_
   have s5 := Same.new (o := .lst [V.int 0]) hl
   have hI : CraftIs T H4 p _ (Sr41.startC ⟨w, h, d, px, py, [n1, n2], Sr41Neutral.boxes ns⟩) := ⟨hx4, ⟨c, f, hd, pt, bl, rfl, sS.chart hC⟩, rfl, rfl, rfl, rfl, rfl, .inl rfl, .inl rfl, .inl rfl, start_ok g⟩
   have sx : SameX p H H4 := (SPx.Same.x (s12.trans s03)).trans s4
   obtain ⟨dx4, hp4⟩ := id hx4
   exact k1 hg _ l _ (hI.mono s5) (sx.mono s5) (sx.free hp4 hl) upd_same
theorem sc_Craft_tick : FnScope ["self", "state", "decision", "what", "burn", "report"] ["self", "state"] (defScope (inClass (top 83) 4)) := fS
def sp_Craft_tick (T : Txt K mg) : Sp := fun vs H Q _ => ∃ (p a : Addr) (x : Cr) (r : Sr41.Craft) (s : Sr40.State), vs = [.ref p, .ref a] ∧ CraftIs T H p x r ∧ StT K H a s ∧ r.mode ≤ 2 ∧ ∀ H' l x' w b r', Sr41Neutral.doesF r s = some (w, b, r') → CraftIs T H' p x' { r' with ticks := r.ticks + 1 } → SameX p H H' → H l = none → H' l = some (.lst (intV (tickA s w b (r.ticks + 1)))) → Q (.ref l) H'
theorem ok_Craft_tick (T : Txt K mg) : FnOk P w K mg base CX0 11 T.craft.Craft_tick.a T.craft.Craft_tick.fd ["self", "state"] (sp_Craft_tick T) := by
 refine T.craft.Craft_tick.F.ok sc_Craft_tick (fun _ _ _ _ h => by obtain ⟨p, a, x, r, s, rfl, _⟩ := h; rfl) (fun cdv A outer s H vs Q E hr h => ?_)
 obtain ⟨p, a, x, r, s, rfl, hX, ha, hm, k⟩ := h
 refine ⟨_, (pss_cons (faugK K (pv 0) pe_int in_add)
  (pss_cons (sA 2 sc_Craft_tick.nd (pe_meth (pv 0) T.craft.Craft.C T.craft.Craft_decide.m (ok_Craft_decide T) (hr.mono (by decide)) T.craft.Craft_decide.b .nil pass0 (pa_cons (pv 1) pa_nil)))
  (pss_cons (sA 3 sc_Craft_tick.nd (xT K (pv 2) pe_int))
  (pss_cons (sA 4 sc_Craft_tick.nd (xT K (pv 2) pe_int))
  (pss_cons (ps_if (pt_cmpR op_eq (pv 3) (pe_glob rfl T.craft.NOT_HERE.g T.craft.NOT_HERE.r) (nomark _)) (pss_one (sA 5 sc_Craft_tick.nd (cG T.messages.report_without_state (ok_report_without_state T) hr (pa_cons (pv 3) (pa_cons (fldK K (pv 0) rfl) pa_nil))))) (pss_one (sA 5 sc_Craft_tick.nd (cG T.messages.report_of (ok_report_of T) hr (pa_cons (pv 3) (pa_cons (pv 1) (pa_cons (fldK K (pv 0) rfl) pa_nil)))))))
  (pss_cons (ps_if (pt_cmpR (eqK K hr.units) (pv 4) (pe_glob rfl T.craft.NO_BURN.g T.craft.NO_BURN.r) (nomark _)) (pss_one (ps_ret (pe_op op_cat (pe_lst (pa_cons (pv 3) pa_nil)) (cG T.messages.sent (ok_sent T) hr (pa_cons (pv 5) pa_nil))))) pss_nil)
  (pss_one (ps_ret (pe_op op_cat (pe_lst (pa_cons (pv 3) (pa_cons pe_int (pa_cons (xT K (pv 4) pe_int) (pa_cons (xT K (pv 4) pe_int) pa_nil))))) (cG T.messages.sent (ok_sent T) hr (pa_cons (pv 5) pa_nil))))))))))), ?_⟩
 try dsimp only [cxOf]
 walk_at "go"
 refine fc_tick hX.at_ fun H1 hx1 s1 => ?_
 have sS := s1.s hX.at_
 obtain ⟨c, f, hd, pt, bx, ech, hC⟩ := hX.ch
 have hX1 : CraftIs T H1 p { x with tk := x.tk + 1 } { r with ticks := r.ticks + 1 } := ⟨hx1, ⟨c, f, hd, pt, bx, ech, sS.chart hC⟩, hX.md, hX.od, by show x.tk + 1 = r.ticks + 1; rw [hX.tk], sS.ex hX.ex, hX.mf, sS.dr hX.dr, sS.su hX.su, sS.aw hX.aw, ⟨hX.ok.g, hX.ok.few, hX.ok.none_, hX.ok.sure⟩⟩
 walk_at "go"
 refine CraftAt.meth hx1 rfl ?_
 walk_at "go"
 refine ⟨p, a, _, _, s, rfl, hX1, sS.tup ha, hm, fun H2 t ab x2 wh b r2 hdo hX2 s2 ht hb => ?_⟩
 obtain ⟨r', hdr, rfl⟩ := does_tick hdo
 have sx2 : SameX p H H2 := s1.trans s2
 have ha2 : StT K H2 a s := (s2.s hx1).tup (sS.tup ha)
 have fin : ∀ H' l, CraftIs T H' p x2 { r' with ticks := r.ticks + 1 } → SameX p H H' → H l = none → H' l = some (.lst (intV (tickA s wh b (r.ticks + 1)))) → Q (.ref l) H' := fun H' l e1 e2 e3 e4 => k H' l x2 wh b r' hdr e1 e2 e3 e4
 have etk : x2.tk = r.ticks + 1 := hX2.tk
 walk_at "go"
 refine ite2 (fun q0 => ?_) (fun q0 => ?_)
 · have ew : wh = 4 := by
     have := of_decide_eq_true q0
     omega
   walk_at "go"
   refine rc_tick_count hX2.at_ ?_
   rw [etk]
   walk_at "go"
   refine ⟨wh, r.ticks + 1, rfl, fun rp H3 s3 hrn hrp => ?_⟩
   have hX3 := hX2.mono s3
   have sx3 := sx2.mono s3
   have hb3 := s3.tup hb
   rw [show Sr41.Msg.report wh 0 0 0 (r.ticks + 1) = Sr41.report wh s (r.ticks + 1) by unfold Sr41.report; rw [if_pos ew, ew]] at hrp
   obtain ⟨dx3, hp3⟩ := hX3.at_
   walk_at "go"
   refine w_eqT hb3 (no_burn T _) ?_
   walk_at "go"
   refine ite2 (fun q1 => ?_) (fun q1 => ?_)
   · have eb : b = ⟨0, 0⟩ := by
       rw [Bool.and_eq_true, decide_eq_true_eq, decide_eq_true_eq] at q1
       obtain ⟨ba, bb⟩ := b
       obtain ⟨e1, e2⟩ := q1
       dsimp only at e1 e2
       rw [e1, e2]
     subst eb
     walk_at "go"
     refine w_small (by show 1 ≤ 1000; decide) fun q1 hq1 => ?_
     have t1 := Same.new (o := .lst [V.int (wh : Int)]) hq1
     walk_at "go"
     refine ⟨rp, _, rfl, t1 _ _ hrp, (by rw [rep_len]; decide), fun q2 H4 s4 hq2 e2 => ?_⟩
     walk_at "go"
     refine w_cat (s4 _ _ upd_same) e2 (by rw [rep_len1]; show 1 + 9 ≤ 1000; decide) fun q3 hq3 => ?_
     have t5 := (t1.trans s4).trans (Same.new (o := .lst ([V.int (wh : Int)] ++ (V.int 1 :: natV (Sr41.bytesOf (Sr41.report wh s (r.ticks + 1)))))) hq3)
     have hX5 := hX3.mono t5
     exact fin _ q3 hX5 (sx3.mono t5) (sx3.free hp3 ((t1.trans s4).free hq3)) (by rw [upd_same, tickA_0])
   · have eb : b ≠ ⟨0, 0⟩ := fun e => q1 (by rw [e]; rfl)
     walk_at "go"
     walk_at "go"
     refine w_small (by show 4 ≤ 1000; decide) fun q1 hq1 => ?_
     have t1 := Same.new (o := .lst [V.int (wh : Int), V.int 0, V.int b.a, V.int b.b]) hq1
     walk_at "go"
     refine ⟨rp, _, rfl, t1 _ _ hrp, (by rw [rep_len]; decide), fun q2 H4 s4 hq2 e2 => ?_⟩
     walk_at "go"
     refine w_cat (s4 _ _ upd_same) e2 (by rw [rep_len1]; show 4 + 9 ≤ 1000; decide) fun q3 hq3 => ?_
     have t5 := (t1.trans s4).trans (Same.new (o := .lst ([V.int (wh : Int), V.int 0, V.int b.a, V.int b.b] ++ (V.int 1 :: natV (Sr41.bytesOf (Sr41.report wh s (r.ticks + 1)))))) hq3)
     have hX5 := hX3.mono t5
     exact fin _ q3 hX5 (sx3.mono t5) (sx3.free hp3 ((t1.trans s4).free hq3)) (by rw [upd_same, tickA_1 s wh eb])
 · have ew : wh ≠ 4 := fun e => q0 (decide_eq_true (by rw [e]; rfl))
   obtain ⟨wx, wy, wv⟩ := does_where hdr ew
   walk_at "go"
   refine rc_tick_count hX2.at_ ?_
   rw [etk]
   walk_at "go"
   refine ⟨a, wh, r.ticks + 1, s, rfl, ha2, wx, wy, wv, fun rp H3 s3 hrn hrp => ?_⟩
   have hX3 := hX2.mono s3
   have sx3 := sx2.mono s3
   have hb3 := s3.tup hb
   rw [show Sr41.Msg.report wh s.x.toNat s.y.toNat (Sr41.speed s) (r.ticks + 1) = Sr41.report wh s (r.ticks + 1) by unfold Sr41.report; rw [if_neg ew]] at hrp
   obtain ⟨dx3, hp3⟩ := hX3.at_
   walk_at "go"
   refine w_eqT hb3 (no_burn T _) ?_
   walk_at "go"
   refine ite2 (fun q1 => ?_) (fun q1 => ?_)
   · have eb : b = ⟨0, 0⟩ := by
       rw [Bool.and_eq_true, decide_eq_true_eq, decide_eq_true_eq] at q1
       obtain ⟨ba, bb⟩ := b
       obtain ⟨e1, e2⟩ := q1
       dsimp only at e1 e2
       rw [e1, e2]
     subst eb
     walk_at "go"
     refine w_small (by show 1 ≤ 1000; decide) fun q1 hq1 => ?_
     have t1 := Same.new (o := .lst [V.int (wh : Int)]) hq1
     walk_at "go"
     refine ⟨rp, _, rfl, t1 _ _ hrp, (by rw [rep_len]; decide), fun q2 H4 s4 hq2 e2 => ?_⟩
     walk_at "go"
     refine w_cat (s4 _ _ upd_same) e2 (by rw [rep_len1]; show 1 + 9 ≤ 1000; decide) fun q3 hq3 => ?_
     have t5 := (t1.trans s4).trans (Same.new (o := .lst ([V.int (wh : Int)] ++ (V.int 1 :: natV (Sr41.bytesOf (Sr41.report wh s (r.ticks + 1)))))) hq3)
     have hX5 := hX3.mono t5
     exact fin _ q3 hX5 (sx3.mono t5) (sx3.free hp3 ((t1.trans s4).free hq3)) (by rw [upd_same, tickA_0])
   · have eb : b ≠ ⟨0, 0⟩ := fun e => q1 (by rw [e]; rfl)
     walk_at "go"
     walk_at "go"
     refine w_small (by show 4 ≤ 1000; decide) fun q1 hq1 => ?_
     have t1 := Same.new (o := .lst [V.int (wh : Int), V.int 0, V.int b.a, V.int b.b]) hq1
     walk_at "go"
     refine ⟨rp, _, rfl, t1 _ _ hrp, (by rw [rep_len]; decide), fun q2 H4 s4 hq2 e2 => ?_⟩
     walk_at "go"
     refine w_cat (s4 _ _ upd_same) e2 (by rw [rep_len1]; show 4 + 9 ≤ 1000; decide) fun q3 hq3 => ?_
     have t5 := (t1.trans s4).trans (Same.new (o := .lst ([V.int (wh : Int), V.int 0, V.int b.a, V.int b.b] ++ (V.int 1 :: natV (Sr41.bytesOf (Sr41.report wh s (r.ticks + 1)))))) hq3)
     have hX5 := hX3.mono t5
     exact fin _ q3 hX5 (sx3.mono t5) (sx3.free hp3 ((t1.trans s4).free hq3)) (by rw [upd_same, tickA_1 s wh eb])
theorem sc_Craft_heard : FnScope ["self", "m", "number"] ["self", "m"] (defScope (inClass (top 83) 12)) := fS
def sp_Craft_heard (T : Txt K mg) : Sp := fun vs H Q _ => ∃ (p l : Addr) (x : Cr) (r : Sr41.Craft) (ns : List Nat), vs = [.ref p, .ref l] ∧ CraftIs T H p x r ∧ SqL K H l (natV ns) ∧ r.mode ≤ 2 ∧ ∀ H' q x', CraftIs T H' p x' (hC r ns).1 → (hC r ns).1.mode ≤ 2 → SameX p H H' → H q = none → H' q = some (.lst (intV (hC r ns).2)) → Q (.ref q) H'
theorem ok_Craft_heard (T : Txt K mg) : FnOk P w K mg base CX0 5 T.craft.Craft_heard.a T.craft.Craft_heard.fd ["self", "m"] (sp_Craft_heard T) := by
 refine T.craft.Craft_heard.F.ok sc_Craft_heard (fun _ _ _ _ h => by obtain ⟨p, l, x, r, ns, rfl, _⟩ := h; rfl) (fun cdv A outer s H vs Q E hr h => ?_)
 obtain ⟨p, l, x, r, ns, rfl, hX, hl, hm, k⟩ := h
 refine ⟨_, (pss_cons (ps_if (pt_not (pt_val (cG T.messages.is_order (ok_is_order T) hr (pa_cons (pv 1) pa_nil)))) (pss_one (ps_ret (pe_lst (pa_cons (pe_glob rfl T.messages.NO_MESSAGE.g T.messages.NO_MESSAGE.r) pa_nil)))) pss_nil)
  (pss_cons (sA 2 sc_Craft_heard.nd (cG T.messages.number_of_order (ok_number_of_order T) hr (pa_cons (pv 1) pa_nil)))
  (pss_cons (ps_if (pt_cmpR op_lt (pv 2) (fldK K (pv 0) rfl) (nomark _)) (pss_one (ps_ret (pe_lst (pa_cons pe_int pa_nil)))) pss_nil)
  (pss_cons (ps_if (pt_cmpR op_gt (pv 2) (fldK K (pv 0) rfl) (nomark _)) (pss_cons (sfldK K (pv 0) (pv 2) rfl)
  (pss_cons (sfldK K (pv 0) (cG T.messages.what_of (ok_what_of T) hr (pa_cons (pv 1) pa_nil)) rfl)
  (pss_one (ps_expr (pe_meth0 (pv 0) T.craft.Craft.C T.craft.Craft_expect_nothing.m (ok_Craft_expect_nothing T) (hr.mono (by decide)) T.craft.Craft_expect_nothing.b .nil pass0))))) pss_nil)
  (pss_one (ps_ret (pe_op op_cat (pe_lst (pa_cons pe_int pa_nil)) (cG T.messages.sent (ok_sent T) hr (pa_cons (cG T.messages.answer_to (ok_answer_to T) hr (pa_cons (fldK K (pv 0) rfl) (pa_cons (fldK K (pv 0) rfl) pa_nil))) pa_nil))))))))), ?_⟩
 try dsimp only [cxOf]
 walk_at "go"
 refine ⟨l, ns, rfl, hl, fun H1 s1 => ?_⟩
 have hX1 := hX.mono s1
 have hl1 := s1.seq hl
 obtain ⟨dx1, hp1⟩ := hX1.at_
 cases hq : (isMs 1 ns && isOf ns) with
 | false =>
   rw [hC_not hq] at k
   walk_at "go"
   refine w_small (by show 1 ≤ 1000; decide) fun q1 hq1 => ?_
   have t1 := Same.new (o := .lst [V.int (-71)]) hq1
   exact k _ q1 _ (hX1.mono t1) hm (SPx.Same.x (s1.trans t1)) (s1.free hq1) upd_same
 | true =>
   rw [hC_order hq] at k
   have hq' := (Bool.and_eq_true _ _).mp hq
   have h8 := isMs_len hq'.1
   have hw : ns.getD 1 0 = 1 ∨ ns.getD 1 0 = 2 := by
     have := hq'.2
     unfold isOf Sr41.isWhat at this
     simp only [Bool.and_eq_true, Bool.or_eq_true, beq_iff_eq] at this
     exact this.1
   walk_at "go"
   refine ⟨l, ns, rfl, hl1, h8, fun H2 s2 => ?_⟩
   have hX2 := hX1.mono s2
   have hl2 := s2.seq hl1
   have s02 := s1.trans s2
   walk_at "go"
   refine rc_last_order hX2.at_ ?_
   rw [hX2.od]
   walk_at "go"
   refine ite2 (fun q0 => ?_) (fun q0 => ?_)
   · have q0 : kO ns < r.order := by
       have := of_decide_eq_true q0
       omega
     rw [if_neg (by omega), if_neg (by omega)] at k
     walk_at "go"
     refine w_small (by show 1 ≤ 1000; decide) fun q1 hq1 => ?_
     have t1 := Same.new (o := .lst [V.int 0]) hq1
     exact k _ q1 _ (hX2.mono t1) hm (SPx.Same.x (s02.trans t1)) (s02.free hq1) upd_same
   · have q0 : ¬ kO ns < r.order := fun e => q0 (decide_eq_true (by omega))
     walk_at "go"
     refine rc_last_order hX2.at_ ?_
     rw [hX2.od]
     walk_at "go"
     refine ite2 (fun q1 => ?_) (fun q1 => ?_)
     · have q1 : r.order < kO ns := by
         have := of_decide_eq_true q1
         omega
       rw [if_pos q1] at k
       walk_at "go"
       refine sc_last_order (y := kO ns) hX2.at_ fun H3 hx3 s3 => ?_
       have sS3 := s3.s hX2.at_
       walk_at "go"
       refine ⟨l, ns, rfl, sS3.seq hl2, h8, ?_⟩
       walk_at "go"
       refine sc_mode (y := ns.getD 1 0) hx3 fun H4 hx4 s4 => ?_
       walk_at "go"
       refine CraftAt.meth hx4 rfl ?_
       walk_at "go"
       refine exp_of ⟨p, _, rfl, hx4, fun H5 hx5 s5 => ?_⟩
       have s25 : SameX p H2 H5 := (s3.trans s4).trans s5
       have sS := s25.s hX2.at_
       obtain ⟨c, f, hd, pt, bx, ech, hC'⟩ := hX2.ch
       have hY : CraftIs T H5 p _ { r.nothing with mode := ns.getD 1 0, order := kO ns } := ⟨hx5, ⟨c, f, hd, pt, bx, ech, sS.chart hC'⟩, rfl, rfl, hX2.tk, rfl, rfl, sS.dr hX2.dr, sS.su hX2.su, sS.aw hX2.aw, nothing_ok hX.ok r.ticks (ns.getD 1 0) (kO ns)⟩
       have sx : SameX p H H5 := (SPx.Same.x s02).trans s25
       walk_at "go"
       refine w_small (by show 1 ≤ 1000; decide) fun q1 hq1 => ?_
       have t1 := Same.new (o := .lst [V.int 0]) hq1
       walk_at "go"
       refine rc_mode (hY.at_.mono t1) ?_
       walk_at "go"
       refine rc_last_order (hY.at_.mono t1) ?_
       rw [hY.md, hY.od]
       walk_at "go"
       refine ⟨_, _, rfl, fun q2 H6 s6 hq2 e6 => ?_⟩
       walk_at "go"
       refine ⟨q2, _, rfl, e6, (by show 8 ≤ 100; decide), fun q3 H7 s7 hq3 e7 => ?_⟩
       walk_at "go"
       refine w_cat (s7 _ _ (s6 _ _ upd_same)) e7 (by show 1 + 9 ≤ 1000; decide) fun q4 hq4 => ?_
       have t7 := (t1.trans s6).trans s7
       have t8 := t7.trans (Same.new (o := .lst ([V.int 0] ++ (V.int 1 :: natV (Sr41.bytesOf (.answer (ns.getD 1 0) (kO ns)))))) hq4)
       obtain ⟨dx5, hp5⟩ := hY.at_
       exact k _ q4 _ (hY.mono t8) (by show ns.getD 1 0 ≤ 2; omega) (sx.mono t8) (sx.free hp5 (t7.free hq4)) (by rw [upd_same, ← intV_ints]; rfl)
     · have q1 : ¬ r.order < kO ns := fun e => q1 (decide_eq_true (by omega))
       rw [if_neg q1, if_pos (by omega)] at k
       walk_at "go"
       refine w_small (by show 1 ≤ 1000; decide) fun q1 hq1 => ?_
       have t1 := Same.new (o := .lst [V.int 0]) hq1
       walk_at "go"
       refine rc_mode (hX2.at_.mono t1) ?_
       walk_at "go"
       refine rc_last_order (hX2.at_.mono t1) ?_
       rw [hX2.md, hX2.od]
       walk_at "go"
       refine ⟨_, _, rfl, fun q2 H6 s6 hq2 e6 => ?_⟩
       walk_at "go"
       refine ⟨q2, _, rfl, e6, (by show 8 ≤ 100; decide), fun q3 H7 s7 hq3 e7 => ?_⟩
       walk_at "go"
       refine w_cat (s7 _ _ (s6 _ _ upd_same)) e7 (by show 1 + 9 ≤ 1000; decide) fun q4 hq4 => ?_
       have t7 := (t1.trans s6).trans s7
       have t8 := t7.trans (Same.new (o := .lst ([V.int 0] ++ (V.int 1 :: natV (Sr41.bytesOf (.answer r.mode r.order))))) hq4)
       obtain ⟨dx5, hp5⟩ := hX2.at_
       exact k _ q4 _ (hX2.mono t8) hm (SPx.Same.x (s02.trans t8)) (s02.free (t7.free hq4)) (by rw [upd_same, ← intV_ints]; rfl)
end
section
variable {P : Program} {w : World} {K : PySem.W.Frag} {mg : Str → Option Value} {base : Heap}
structure Pe where
 on : Nat
 ow : Nat
 oa : Bool
 rn : Nat
 rw : Nat
 rs : V
 tk : Nat
def Pe.fs (x : Pe) : List (Str × V) := [("order_number", .int (x.on : Int)), ("order_what", .int (x.ow : Int)), ("order_answered", .bl x.oa), ("report_number", .int (x.rn : Int)), ("report_what", .int (x.rw : Int)), ("report_state", x.rs), ("tick_count", .int (x.tk : Int))]
def PeAt (T : Txt K mg) (H : Hp) (p : Addr) (x : Pe) : Prop := ∃ dx, H p = some (.ins T.people.PeoplesEnd.A dx x.fs)
theorem PeAt.mono {T : Txt K mg} {H H' : Hp} {p : Addr} {x : Pe} (s : Same H H') (h : PeAt T H p x) : PeAt T H' p x := by
 obtain ⟨dx, e⟩ := h
 exact ⟨dx, s _ _ e⟩
theorem PeAt.meth {T : Txt K mg} {H : Hp} {p : Addr} {x : Pe} {R : Prop} {y : Str} (h : PeAt T H p x) (hx : x.fs.lookup y = none) (q : R) : MethR T.people.PeoplesEnd.A y (.ref p) H R := by
 obtain ⟨dx, e⟩ := h
 exact w_methR e hx q
theorem SameX.sP {T : Txt K mg} {p : Addr} {x : Pe} {H H' : Hp} (a : SameX p H H') (h : PeAt T H p x) : SameS H H' := fun b o e hs => a b o e fun q => by
 obtain ⟨dx, hp⟩ := h
 rw [q, hp] at e
 cases e
 exact absurd (show (7 : Nat) < 7 from hs) (by decide)
theorem rp_order_number {T : Txt K mg} {H : Hp} {p : Addr} {x : Pe} {Q : VK} (h : PeAt T H p x) (q : Q (.int (x.on : Int)) H) : FldR K "order_number" (.ref p) H Q := by
 obtain ⟨dx, e⟩ := h
 exact w_fldR e T.people.PeoplesEnd.C T.people.PeoplesEnd.na.1 rfl q
theorem rp_order_what {T : Txt K mg} {H : Hp} {p : Addr} {x : Pe} {Q : VK} (h : PeAt T H p x) (q : Q (.int (x.ow : Int)) H) : FldR K "order_what" (.ref p) H Q := by
 obtain ⟨dx, e⟩ := h
 exact w_fldR e T.people.PeoplesEnd.C T.people.PeoplesEnd.na.2.1 rfl q
theorem wp_order_what {T : Txt K mg} {H : Hp} {p : Addr} {x : Pe} {y : Nat} {R : Hp → Prop} (h : PeAt T H p x) (q : ∀ H', PeAt T H' p { x with ow := y } → SameX p H H' → R H') : SFldR K "order_what" (.ref p) (.int (y : Int)) H R := by
 obtain ⟨dx, e⟩ := h
 exact w_sfldR e T.people.PeoplesEnd.C T.people.PeoplesEnd.na.2.1 (show 7 < 1000 by decide) (q _ ⟨dx, upd_same⟩ (SameX.set (SameX.refl p H)))
theorem rp_order_answered {T : Txt K mg} {H : Hp} {p : Addr} {x : Pe} {Q : VK} (h : PeAt T H p x) (q : Q (.bl x.oa) H) : FldR K "order_answered" (.ref p) H Q := by
 obtain ⟨dx, e⟩ := h
 exact w_fldR e T.people.PeoplesEnd.C T.people.PeoplesEnd.na.2.2.1 rfl q
theorem wp_order_answered {T : Txt K mg} {H : Hp} {p : Addr} {x : Pe} {y : Bool} {R : Hp → Prop} (h : PeAt T H p x) (q : ∀ H', PeAt T H' p { x with oa := y } → SameX p H H' → R H') : SFldR K "order_answered" (.ref p) (.bl y) H R := by
 obtain ⟨dx, e⟩ := h
 exact w_sfldR e T.people.PeoplesEnd.C T.people.PeoplesEnd.na.2.2.1 (show 7 < 1000 by decide) (q _ ⟨dx, upd_same⟩ (SameX.set (SameX.refl p H)))
theorem rp_report_number {T : Txt K mg} {H : Hp} {p : Addr} {x : Pe} {Q : VK} (h : PeAt T H p x) (q : Q (.int (x.rn : Int)) H) : FldR K "report_number" (.ref p) H Q := by
 obtain ⟨dx, e⟩ := h
 exact w_fldR e T.people.PeoplesEnd.C T.people.PeoplesEnd.na.2.2.2.1 rfl q
theorem wp_report_number {T : Txt K mg} {H : Hp} {p : Addr} {x : Pe} {y : Nat} {R : Hp → Prop} (h : PeAt T H p x) (q : ∀ H', PeAt T H' p { x with rn := y } → SameX p H H' → R H') : SFldR K "report_number" (.ref p) (.int (y : Int)) H R := by
 obtain ⟨dx, e⟩ := h
 exact w_sfldR e T.people.PeoplesEnd.C T.people.PeoplesEnd.na.2.2.2.1 (show 7 < 1000 by decide) (q _ ⟨dx, upd_same⟩ (SameX.set (SameX.refl p H)))
theorem rp_report_what {T : Txt K mg} {H : Hp} {p : Addr} {x : Pe} {Q : VK} (h : PeAt T H p x) (q : Q (.int (x.rw : Int)) H) : FldR K "report_what" (.ref p) H Q := by
 obtain ⟨dx, e⟩ := h
 exact w_fldR e T.people.PeoplesEnd.C T.people.PeoplesEnd.na.2.2.2.2.1 rfl q
theorem wp_report_what {T : Txt K mg} {H : Hp} {p : Addr} {x : Pe} {y : Nat} {R : Hp → Prop} (h : PeAt T H p x) (q : ∀ H', PeAt T H' p { x with rw := y } → SameX p H H' → R H') : SFldR K "report_what" (.ref p) (.int (y : Int)) H R := by
 obtain ⟨dx, e⟩ := h
 exact w_sfldR e T.people.PeoplesEnd.C T.people.PeoplesEnd.na.2.2.2.2.1 (show 7 < 1000 by decide) (q _ ⟨dx, upd_same⟩ (SameX.set (SameX.refl p H)))
theorem rp_report_state {T : Txt K mg} {H : Hp} {p : Addr} {x : Pe} {Q : VK} (h : PeAt T H p x) (q : Q (x.rs) H) : FldR K "report_state" (.ref p) H Q := by
 obtain ⟨dx, e⟩ := h
 exact w_fldR e T.people.PeoplesEnd.C T.people.PeoplesEnd.na.2.2.2.2.2.1 rfl q
theorem wp_report_state {T : Txt K mg} {H : Hp} {p : Addr} {x : Pe} {y : V} {R : Hp → Prop} (h : PeAt T H p x) (q : ∀ H', PeAt T H' p { x with rs := y } → SameX p H H' → R H') : SFldR K "report_state" (.ref p) (y) H R := by
 obtain ⟨dx, e⟩ := h
 exact w_sfldR e T.people.PeoplesEnd.C T.people.PeoplesEnd.na.2.2.2.2.2.1 (show 7 < 1000 by decide) (q _ ⟨dx, upd_same⟩ (SameX.set (SameX.refl p H)))
theorem rp_tick_count {T : Txt K mg} {H : Hp} {p : Addr} {x : Pe} {Q : VK} (h : PeAt T H p x) (q : Q (.int (x.tk : Int)) H) : FldR K "tick_count" (.ref p) H Q := by
 obtain ⟨dx, e⟩ := h
 exact w_fldR e T.people.PeoplesEnd.C T.people.PeoplesEnd.na.2.2.2.2.2.2.1 rfl q
theorem fp_order_number {T : Txt K mg} {H : Hp} {p : Addr} {x : Pe} {σ : L2.St} {R : Hp → Prop} (h : PeAt T H p x) (q : ∀ H', PeAt T H' p { x with on := x.on + 1 } → SameX p H H' → R H') : FAugR K "order_number" (.ref p) H (tC (.int 1) σ) rAdd R := by
 obtain ⟨dx, e⟩ := h
 exact w_faugI e T.people.PeoplesEnd.C T.people.PeoplesEnd.na.1 rfl (show 7 < 1000 by decide) (q _ ⟨dx, upd_same⟩ (SameX.set (SameX.refl p H)))
theorem fp_tick_count {T : Txt K mg} {H : Hp} {p : Addr} {x : Pe} {σ : L2.St} {R : Hp → Prop} (h : PeAt T H p x) (q : ∀ H', PeAt T H' p { x with tk := x.tk + 1 } → SameX p H H' → R H') : FAugR K "tick_count" (.ref p) H (tC (.int 1) σ) rAdd R := by
 obtain ⟨dx, e⟩ := h
 exact w_faugI e T.people.PeoplesEnd.C T.people.PeoplesEnd.na.2.2.2.2.2.2.1 rfl (show 7 < 1000 by decide) (q _ ⟨dx, upd_same⟩ (SameX.set (SameX.refl p H)))
structure PeIs (T : Txt K mg) (H : Hp) (p : Addr) (x : Pe) (b : Sr41.Base) : Prop where
 at_ : PeAt T H p x
 on : x.on = b.order
 ow : x.ow = b.what
 oa : x.oa = b.answered
 tk : x.tk = b.ticks
 rep : ∃ l c d e, x.rs = .ref l ∧ H l = some (.lst (natV [c, d, e])) ∧ b.report = [x.rn, x.rw, c, d, e]
 le : b.order ≤ 65535
theorem PeIs.mono {T : Txt K mg} {H H' : Hp} {p : Addr} {x : Pe} {b : Sr41.Base} (h : PeIs T H p x b) (s : Same H H') : PeIs T H' p x b := by
 obtain ⟨l, c, d, e, e1, e2, e3⟩ := h.rep
 exact ⟨h.at_.mono s, h.on, h.ow, h.oa, h.tk, ⟨l, c, d, e, e1, s _ _ e2, e3⟩, h.le⟩
theorem PeIs.to {T : Txt K mg} {H H' : Hp} {p : Addr} {x y : Pe} {b d : Sr41.Base} (h : PeIs T H p x b) (s : SameX p H H') (hy : PeAt T H' p y) (h1 : y.on = d.order) (h2 : y.ow = d.what) (h3 : y.oa = d.answered) (h4 : y.tk = d.ticks) (h5 : y.rn = x.rn) (h6 : y.rw = x.rw) (h7 : y.rs = x.rs) (h8 : d.report = b.report) (h9 : d.order ≤ 65535) : PeIs T H' p y d := by
 obtain ⟨l, c, d', e, e1, e2, e3⟩ := h.rep
 exact ⟨hy, h1, h2, h3, h4, ⟨l, c, d', e, h7.trans e1, (s.sP h.at_).lst e2, by rw [h8, h5, h6, e3]⟩, h9⟩
def ansB (b : Sr41.Base) (c : Sr41.Call) : List Int := Sr41Neutral.given (Sr41.bAct b c).2.1 ++ (Sr41.bAct b c).2.2.flatMap Sr41Neutral.told
theorem asks_told (b : Sr41.Base) (v : Int) : intV ([v] ++ (b.asks).flatMap Sr41Neutral.told) = [.int v] ++ (.int 1 :: natV (Sr41.bytesOf (.order b.what b.order))) := by
 show intV ([v] ++ ((1 :: Sr41Neutral.ints (Sr41.bytesOf (.order b.what b.order))) ++ [])) = _
 rw [List.append_nil, ← intV_ints]
 rfl
def hB (b : Sr41.Base) (ns : List Nat) : Sr41.Base × List Int := match Sr41.messageOf ns with
 | some (.answer _ k) => (if k = b.order then { b with answered := true } else b, [0])
 | some (.report w x y v k) => (if b.last < k then { b with report := [k, w, x, y, v] } else b, [0])
 | _ => (b, [-71])
theorem hB_of (b : Sr41.Base) (ns : List Nat) : hB b ns = if isMs 2 ns && isOf ns then (if kO ns = b.order then { b with answered := true } else b, [0]) else if isRp ns then (if b.last < kR ns then { b with report := [kR ns, ns.getD 1 0, ns.getD 2 0, ns.getD 3 0, ns.getD 4 0] } else b, [0]) else (b, [-71]) := by
 unfold hB
 rw [msg_of]
 by_cases h1 : (isMs 1 ns && isOf ns) = true
 · have h2 := isMs_ne ((Bool.and_eq_true _ _).mp h1).1 (g := 2) (by decide)
   have h3 := isMs_ne ((Bool.and_eq_true _ _).mp h1).1 (g := 3) (by decide)
   have h4 : isRp ns = false := by
     unfold isRp
     rw [h3, Bool.false_and]
   rw [if_pos h1, h2, h4]
   rfl
 · rw [if_neg h1]
   by_cases h2 : (isMs 2 ns && isOf ns) = true
   · rw [if_pos h2, if_pos h2]
   · rw [if_neg h2, if_neg h2]
     by_cases h3 : isRp ns = true
     · rw [if_pos h3, if_pos h3]
     · rw [if_neg h3, if_neg h3]
theorem hB_act (b : Sr41.Base) (l : List Int) : (Sr41.bAct b (.bHeard (Sr41Neutral.eight l))).1 = (hB b (Sr41Neutral.nats l)).1 ∧ ansB b (.bHeard (Sr41Neutral.eight l)) = (hB b (Sr41Neutral.nats l)).2 := by
 unfold ansB hB Sr41.bAct
 dsimp only
 rw [msg_eight]
 cases Sr41.messageOf (Sr41Neutral.nats l) with
 | none => exact ⟨rfl, rfl⟩
 | some m => cases m <;> exact ⟨rfl, rfl⟩
theorem sc_PeoplesEnd_begin : FnScope ["self"] ["self"] (defScope (inClass (top 87) 1)) := fS
def sp_PeoplesEnd_begin (T : Txt K mg) : Sp := fun vs H Q _ => ∃ (p dx : Addr) (fs : List (Str × V)), vs = [.ref p] ∧ H p = some (.ins T.people.PeoplesEnd.A dx fs) ∧ (fs = [] ∨ ∃ x : Pe, fs = x.fs) ∧ ∀ H' x, PeIs T H' p x Sr41.startB → SameX p H H' → Q .non H'
theorem ok_PeoplesEnd_begin (T : Txt K mg) : FnOk P w K mg base CX0 1 T.people.PeoplesEnd_begin.a T.people.PeoplesEnd_begin.fd ["self"] (sp_PeoplesEnd_begin T) := by
 refine T.people.PeoplesEnd_begin.F.ok sc_PeoplesEnd_begin (fun _ _ _ _ h => by obtain ⟨p, dx, fs, rfl, _⟩ := h; rfl) (fun cdv A outer s H vs Q E hr h => ?_)
 obtain ⟨p, dx, fs, rfl, hp, hfs, k⟩ := h
 refine ⟨_, (pss_cons (sfldK K (pv 0) pe_int rfl)
  (pss_cons (sfldK K (pv 0) pe_int rfl)
  (pss_cons (sfldK K (pv 0) pe_bl rfl)
  (pss_cons (sfldK K (pv 0) pe_int rfl)
  (pss_cons (sfldK K (pv 0) pe_int rfl)
  (pss_cons (sfldK K (pv 0) (pe_lst (pa_cons pe_int (pa_cons pe_int (pa_cons pe_int pa_nil)))) rfl)
  (pss_one (sfldK K (pv 0) pe_int rfl)))))))), ?_⟩
 try dsimp only [cxOf]
 have hl : fs.length ≤ 7 := by
   rcases hfs with rfl | ⟨x, rfl⟩
   · exact Nat.zero_le _
   · exact Nat.le_refl 7
 walk_at "go"
 refine st_step hp T.people.PeoplesEnd.C T.people.PeoplesEnd.na.1 hl (by omega) fun H1 h1 l1 s1 => ?_
 walk_at "go"
 refine st_step h1 T.people.PeoplesEnd.C T.people.PeoplesEnd.na.2.1 l1 (by omega) fun H2 h2 l2 s2 => ?_
 walk_at "go"
 refine st_step h2 T.people.PeoplesEnd.C T.people.PeoplesEnd.na.2.2.1 l2 (by omega) fun H3 h3 l3 s3 => ?_
 walk_at "go"
 refine st_step h3 T.people.PeoplesEnd.C T.people.PeoplesEnd.na.2.2.2.1 l3 (by omega) fun H4 h4 l4 s4 => ?_
 walk_at "go"
 refine st_step h4 T.people.PeoplesEnd.C T.people.PeoplesEnd.na.2.2.2.2.1 l4 (by omega) fun H5 h5 l5 s5 => ?_
 walk_at "go"
 refine w_small (by show 3 ≤ 1000; decide) fun l hln => ?_
 have sl := Same.new (o := .lst (natV [0, 0, 0])) hln
 walk_at "go"
 refine st_step (sl _ _ h5) T.people.PeoplesEnd.C T.people.PeoplesEnd.na.2.2.2.2.2.1 l5 (by omega) fun H6 h6 l6 s6 => ?_
 walk_at "go"
 refine st_step h6 T.people.PeoplesEnd.C T.people.PeoplesEnd.na.2.2.2.2.2.2.1 l6 (by omega) fun H7 h7 l7 s7 => ?_
 have sx : SameX p H H7 := (((((((s1.trans s2).trans s3).trans s4).trans s5).mono sl).trans s6).trans s7)
 have hlp : l ≠ p := fun e => by
   rw [e, h5] at hln
   cases hln
 have el : H7 l = some (.lst (natV [0, 0, 0])) := (s6.trans s7) _ _ upd_same hlp
 refine k H7 ⟨0, 0, false, 0, 0, .ref l, 0⟩ ⟨⟨dx, ?_⟩, rfl, rfl, rfl, rfl, ⟨l, 0, 0, 0, rfl, el, rfl⟩, Nat.zero_le _⟩ sx
 rcases hfs with rfl | ⟨x, rfl⟩
 · exact h7
 · exact h7
theorem sc_PeoplesEnd_init : FnScope ["self"] ["self"] (defScope (inClass (top 87) 0)) := fS
def sp_PeoplesEnd_init (T : Txt K mg) : Sp := fun vs H Q _ => ∃ (p dx : Addr), vs = [.ref p] ∧ H p = some (.ins T.people.PeoplesEnd.A dx []) ∧ ∀ H' x, PeIs T H' p x Sr41.startB → SameX p H H' → Q .non H'
theorem ok_PeoplesEnd_init (T : Txt K mg) : FnOk P w K mg base CX0 3 T.people.PeoplesEnd_init.a T.people.PeoplesEnd_init.fd ["self"] (sp_PeoplesEnd_init T) := by
 refine T.people.PeoplesEnd_init.F.ok sc_PeoplesEnd_init (fun _ _ _ _ h => by obtain ⟨p, dx, rfl, _⟩ := h; rfl) (fun cdv A outer s H vs Q E hr h => ?_)
 obtain ⟨p, dx, rfl, hp, k⟩ := h
 refine ⟨_, (pss_one (ps_expr (pe_meth0 (pv 0) T.people.PeoplesEnd.C T.people.PeoplesEnd_begin.m (ok_PeoplesEnd_begin T) (hr.mono (by decide)) T.people.PeoplesEnd_begin.b .nil pass0))), ?_⟩
 try dsimp only [cxOf]
 walk_at "go"
 refine w_methR hp rfl ?_
 walk_at "go"
 exact ⟨p, dx, _, rfl, hp, .inl rfl, fun H1 x1 h1 s1 => k H1 x1 h1 s1⟩
theorem sc_PeoplesEnd_start : FnScope ["self"] ["self"] (defScope (inClass (top 87) 2)) := fS
def sp_PeoplesEnd_start (T : Txt K mg) : Sp := fun vs H Q _ => ∃ (p : Addr) (x : Pe), vs = [.ref p] ∧ PeAt T H p x ∧ ∀ H' l x', PeIs T H' p x' Sr41.startB → SameX p H H' → H l = none → H' l = some (.lst [.int 0]) → Q (.ref l) H'
theorem ok_PeoplesEnd_start (T : Txt K mg) : FnOk P w K mg base CX0 3 T.people.PeoplesEnd_start.a T.people.PeoplesEnd_start.fd ["self"] (sp_PeoplesEnd_start T) := by
 refine T.people.PeoplesEnd_start.F.ok sc_PeoplesEnd_start (fun _ _ _ _ h => by obtain ⟨p, x, rfl, _⟩ := h; rfl) (fun cdv A outer s H vs Q E hr h => ?_)
 obtain ⟨p, x, rfl, hp, k⟩ := h
 refine ⟨_, (pss_cons (ps_expr (pe_meth0 (pv 0) T.people.PeoplesEnd.C T.people.PeoplesEnd_begin.m (ok_PeoplesEnd_begin T) (hr.mono (by decide)) T.people.PeoplesEnd_begin.b .nil pass0))
  (pss_one (ps_ret (pe_lst (pa_cons pe_int pa_nil))))), ?_⟩
 try dsimp only [cxOf]
 obtain ⟨dx, hpx⟩ := id hp
 walk_at "go"
 refine w_methR hpx rfl ?_
 walk_at "go"
 refine ⟨p, dx, _, rfl, hpx, .inr ⟨x, rfl⟩, fun H1 x1 h1 s1 => ?_⟩
 walk_at "go"
 refine w_small (by show 1 ≤ 1000; decide) fun l hl => ?_
 have s2 := Same.new (o := .lst [V.int 0]) hl
 obtain ⟨dx1, hp1⟩ := h1.at_
 exact k _ l x1 (h1.mono s2) (s1.mono s2) (s1.free hp1 hl) upd_same
theorem sc_PeoplesEnd_sent_order : FnScope ["self"] ["self"] (defScope (inClass (top 87) 4)) := fS
def sp_PeoplesEnd_sent_order (T : Txt K mg) : Sp := fun vs H Q _ => ∃ (p : Addr) (x : Pe), vs = [.ref p] ∧ PeAt T H p x ∧ ∀ l H', Same H H' → H l = none → H' l = some (.lst (.int 1 :: natV (Sr41.bytesOf (.order x.ow x.on)))) → Q (.ref l) H'
theorem ok_PeoplesEnd_sent_order (T : Txt K mg) : FnOk P w K mg base CX0 4 T.people.PeoplesEnd_sent_order.a T.people.PeoplesEnd_sent_order.fd ["self"] (sp_PeoplesEnd_sent_order T) := by
 refine T.people.PeoplesEnd_sent_order.F.ok sc_PeoplesEnd_sent_order (fun _ _ _ _ h => by obtain ⟨p, x, rfl, _⟩ := h; rfl) (fun cdv A outer s H vs Q E hr h => ?_)
 obtain ⟨p, x, rfl, hp, k⟩ := h
 refine ⟨_, (pss_one (ps_ret (cG T.messages.sent (ok_sent T) hr (pa_cons (cG T.messages.order_to (ok_order_to T) hr (pa_cons (fldK K (pv 0) rfl) (pa_cons (fldK K (pv 0) rfl) pa_nil))) pa_nil)))), ?_⟩
 try dsimp only [cxOf]
 walk_at "go"
 refine rp_order_what hp ?_
 walk_at "go"
 refine rp_order_number hp ?_
 walk_at "go"
 refine ⟨_, _, rfl, fun q1 H1 s1 hq1 e1 => ?_⟩
 walk_at "go"
 exact ⟨q1, _, rfl, e1, (by show 8 ≤ 100; decide), fun q2 H2 s2 hq2 e2 => k q2 H2 (s1.trans s2) (s1.free hq2) e2⟩
theorem sc_PeoplesEnd_order : FnScope ["self", "what"] ["self", "what"] (defScope (inClass (top 87) 3)) := fS
def sp_PeoplesEnd_order (T : Txt K mg) : Sp := fun vs H Q _ => ∃ (p : Addr) (x : Pe) (b : Sr41.Base) (n : Nat), vs = [.ref p, .int (n : Int)] ∧ PeIs T H p x b ∧ ∀ H' l x', PeIs T H' p x' (Sr41.bAct b (.order n)).1 → SameX p H H' → H l = none → H' l = some (.lst (intV (ansB b (.order n)))) → Q (.ref l) H'
theorem ok_PeoplesEnd_order (T : Txt K mg) : FnOk P w K mg base CX0 5 T.people.PeoplesEnd_order.a T.people.PeoplesEnd_order.fd ["self", "what"] (sp_PeoplesEnd_order T) := by
 refine T.people.PeoplesEnd_order.F.ok sc_PeoplesEnd_order (fun _ _ _ _ h => by obtain ⟨p, x, b, n, rfl, _⟩ := h; rfl) (fun cdv A outer s H vs Q E hr h => ?_)
 obtain ⟨p, x, b, n, rfl, hP, k⟩ := h
 refine ⟨_, (pss_cons (ps_if (pt_not (pt_val (cG T.messages.is_order_what (ok_is_order_what T) hr (pa_cons (pv 1) pa_nil)))) (pss_one (ps_ret (pe_lst (pa_cons (pe_glob rfl T.messages.NOT_AS_TOLD.g T.messages.NOT_AS_TOLD.r) pa_nil)))) pss_nil)
  (pss_cons (ps_if (pt_cmpR op_eq (fldK K (pv 0) rfl) (pe_glob rfl T.people.MOST_ORDERS.g T.people.MOST_ORDERS.r) (nomark _)) (pss_one (ps_ret (pe_lst (pa_cons (pe_glob rfl T.messages.TOO_MANY.g T.messages.TOO_MANY.r) pa_nil)))) pss_nil)
  (pss_cons (faugK K (pv 0) pe_int in_add)
  (pss_cons (sfldK K (pv 0) (pv 1) rfl)
  (pss_cons (sfldK K (pv 0) pe_bl rfl)
  (pss_one (ps_ret (pe_op op_cat (pe_lst (pa_cons (fldK K (pv 0) rfl) pa_nil)) (pe_meth0 (pv 0) T.people.PeoplesEnd.C T.people.PeoplesEnd_sent_order.m (ok_PeoplesEnd_sent_order T) (hr.mono (by decide)) T.people.PeoplesEnd_sent_order.b .nil pass0))))))))), ?_⟩
 try dsimp only [cxOf]
 walk_at "go"
 refine ⟨n, rfl, fun H1 s1 => ?_⟩
 have hP1 := hP.mono s1
 cases hw : Sr41.isWhat n with
 | false =>
   have e : Sr41.bAct b (.order n) = (b, .num (-22), []) := by
     show (if Sr41.isWhat n = false then _ else _) = _
     rw [if_pos hw]
   walk_at "go"
   refine w_small (by show 1 ≤ 1000; decide) fun l hl => ?_
   have s2 := Same.new (o := .lst [V.int (-22)]) hl
   exact k _ l x (by rw [e]; exact hP1.mono s2) (SPx.Same.x (s1.trans s2)) (s1.free hl) (by unfold ansB; rw [e, upd_same]; rfl)
 | true =>
   walk_at "go"
   refine rp_order_number hP1.at_ ?_
   rw [hP1.on]
   walk_at "go"
   have hle := hP.le
   refine ite2 (fun q0 => ?_) (fun q0 => ?_)
   · have q0 : b.order = 65535 := by
       have := of_decide_eq_true q0
       omega
     have e : Sr41.bAct b (.order n) = (b, .num (-28), []) := by
       show (if Sr41.isWhat n = false then _ else if 65535 ≤ b.order then _ else _) = _
       rw [if_neg (by rw [hw]; decide), if_pos (by omega)]
     walk_at "go"
     refine w_small (by show 1 ≤ 1000; decide) fun l hl => ?_
     have s2 := Same.new (o := .lst [V.int (-28)]) hl
     exact k _ l x (by rw [e]; exact hP1.mono s2) (SPx.Same.x (s1.trans s2)) (s1.free hl) (by unfold ansB; rw [e, upd_same]; rfl)
   · have q0 : ¬ 65535 ≤ b.order := fun h => q0 (decide_eq_true (by omega))
     have e : Sr41.bAct b (.order n) = ({ b with order := b.order + 1, what := n, answered := false }, .num ((b.order + 1 : Nat) : Int), Sr41.Base.asks { b with order := b.order + 1, what := n, answered := false }) := by
       show (if Sr41.isWhat n = false then _ else if 65535 ≤ b.order then _ else _) = _
       rw [if_neg (by rw [hw]; decide), if_neg q0]
     walk_at "go"
     refine fp_order_number hP1.at_ fun H2 hp2 s2 => ?_
     walk_at "go"
     refine wp_order_what (y := n) hp2 fun H3 hp3 s3 => ?_
     walk_at "go"
     refine wp_order_answered (y := false) hp3 fun H4 hp4 s4 => ?_
     have s14 : SameX p H1 H4 := (s2.trans s3).trans s4
     have hP4 : PeIs T H4 p _ { b with order := b.order + 1, what := n, answered := false } := hP1.to s14 hp4 (by show x.on + 1 = b.order + 1; rw [hP1.on]) rfl rfl hP1.tk rfl rfl rfl rfl (by show b.order + 1 ≤ 65535; omega)
     walk_at "go"
     refine rp_order_number hp4 ?_
     walk_at "go"
     refine w_small (by show 1 ≤ 1000; decide) fun q1 hq1 => ?_
     have t1 := Same.new (o := .lst [V.int ((x.on + 1 : Nat) : Int)]) hq1
     walk_at "go"
     refine PeAt.meth (hp4.mono t1) rfl ?_
     walk_at "go"
     refine ⟨p, _, rfl, hp4.mono t1, fun q2 H5 s5 hq2 e5 => ?_⟩
     walk_at "go"
     refine w_cat (s5 _ _ upd_same) e5 (by show 1 + 9 ≤ 1000; decide) fun q3 hq3 => ?_
     have t5 := t1.trans s5
     have t6 := t5.trans (Same.new (o := .lst ([V.int ((x.on + 1 : Nat) : Int)] ++ (V.int 1 :: natV (Sr41.bytesOf (.order n (x.on + 1)))))) hq3)
     have sx : SameX p H H4 := (SPx.Same.x s1).trans s14
     obtain ⟨dx4, hpx4⟩ := id hp4
     refine k _ q3 _ (by rw [e]; exact hP4.mono t6) (sx.mono t6) (sx.free hpx4 (t5.free hq3)) ?_
     unfold ansB
     rw [e, upd_same]
     refine congrArg (fun z => some (HO.lst z)) (Eq.trans ?_ (asks_told _ _).symm)
     rw [hP1.on]
theorem sc_PeoplesEnd_hear_answer : FnScope ["self", "m"] ["self", "m"] (defScope (inClass (top 87) 6)) := fS
def sp_PeoplesEnd_hear_answer (T : Txt K mg) : Sp := fun vs H Q _ => ∃ (p l : Addr) (x : Pe) (b : Sr41.Base) (ns : List Nat), vs = [.ref p, .ref l] ∧ PeIs T H p x b ∧ SqL K H l (natV ns) ∧ ns.length = 8 ∧ ∀ H' x', PeIs T H' p x' (if kO ns = b.order then { b with answered := true } else b) → SameX p H H' → Q .non H'
theorem ok_PeoplesEnd_hear_answer (T : Txt K mg) : FnOk P w K mg base CX0 3 T.people.PeoplesEnd_hear_answer.a T.people.PeoplesEnd_hear_answer.fd ["self", "m"] (sp_PeoplesEnd_hear_answer T) := by
 refine T.people.PeoplesEnd_hear_answer.F.ok sc_PeoplesEnd_hear_answer (fun _ _ _ _ h => by obtain ⟨p, l, x, b, ns, rfl, _⟩ := h; rfl) (fun cdv A outer s H vs Q E hr h => ?_)
 obtain ⟨p, l, x, b, ns, rfl, hP, hl, h8, k⟩ := h
 refine ⟨_, (pss_one (ps_if (pt_cmpR op_eq (cG T.messages.number_of_order (ok_number_of_order T) hr (pa_cons (pv 1) pa_nil)) (fldK K (pv 0) rfl) (nomark _)) (pss_one (sfldK K (pv 0) pe_bl rfl)) pss_nil)), ?_⟩
 try dsimp only [cxOf]
 walk_at "go"
 refine ⟨l, ns, rfl, hl, h8, fun H1 s1 => ?_⟩
 have hP1 := hP.mono s1
 walk_at "go"
 refine rp_order_number hP1.at_ ?_
 rw [hP1.on]
 walk_at "go"
 refine ite2 (fun q0 => ?_) (fun q0 => ?_)
 · have q0 : kO ns = b.order := by
     have := of_decide_eq_true q0
     omega
   rw [if_pos q0] at k
   walk_at "go"
   refine wp_order_answered (y := true) hP1.at_ fun H2 hp2 s2 => ?_
   exact k H2 _ (hP1.to s2 hp2 hP1.on hP1.ow rfl hP1.tk rfl rfl rfl rfl hP1.le) ((SPx.Same.x s1).trans s2)
 · have q0 : ¬ kO ns = b.order := fun h => q0 (decide_eq_true (by rw [h]))
   rw [if_neg q0] at k
   walk_at "go"
   exact k H1 _ hP1 (SPx.Same.x s1)
theorem sc_PeoplesEnd_hear_report : FnScope ["self", "m"] ["self", "m"] (defScope (inClass (top 87) 7)) := fS
def sp_PeoplesEnd_hear_report (T : Txt K mg) : Sp := fun vs H Q _ => ∃ (p l : Addr) (x : Pe) (b : Sr41.Base) (ns : List Nat), vs = [.ref p, .ref l] ∧ PeIs T H p x b ∧ SqL K H l (natV ns) ∧ ns.length = 8 ∧ ∀ H' x', PeIs T H' p x' (if b.last < kR ns then { b with report := [kR ns, ns.getD 1 0, ns.getD 2 0, ns.getD 3 0, ns.getD 4 0] } else b) → SameX p H H' → Q .non H'
theorem ok_PeoplesEnd_hear_report (T : Txt K mg) : FnOk P w K mg base CX0 3 T.people.PeoplesEnd_hear_report.a T.people.PeoplesEnd_hear_report.fd ["self", "m"] (sp_PeoplesEnd_hear_report T) := by
 refine T.people.PeoplesEnd_hear_report.F.ok sc_PeoplesEnd_hear_report (fun _ _ _ _ h => by obtain ⟨p, l, x, b, ns, rfl, _⟩ := h; rfl) (fun cdv A outer s H vs Q E hr h => ?_)
 obtain ⟨p, l, x, b, ns, rfl, hP, hl, h8, k⟩ := h
 refine ⟨_, (pss_one (ps_if (pt_cmpR op_gt (cG T.messages.number_of_report (ok_number_of_report T) hr (pa_cons (pv 1) pa_nil)) (fldK K (pv 0) rfl) (nomark _)) (pss_cons (sfldK K (pv 0) (cG T.messages.number_of_report (ok_number_of_report T) hr (pa_cons (pv 1) pa_nil)) rfl)
  (pss_cons (sfldK K (pv 0) (cG T.messages.what_of (ok_what_of T) hr (pa_cons (pv 1) pa_nil)) rfl)
  (pss_one (sfldK K (pv 0) (cG T.messages.state_told (ok_state_told T) hr (pa_cons (pv 1) pa_nil)) rfl)))) pss_nil)), ?_⟩
 try dsimp only [cxOf]
 have el : b.last = x.rn := by
   obtain ⟨l', c, d, e, e1, e2, e3⟩ := hP.rep
   unfold Sr41.Base.last
   rw [e3]
   rfl
 walk_at "go"
 refine ⟨l, ns, rfl, hl, h8, fun H1 s1 => ?_⟩
 have hP1 := hP.mono s1
 walk_at "go"
 refine rp_report_number hP1.at_ ?_
 rw [← el]
 walk_at "go"
 refine ite2 (fun q0 => ?_) (fun q0 => ?_)
 · have q0 : b.last < kR ns := by
     have := of_decide_eq_true q0
     omega
   rw [if_pos q0] at k
   have hl1 := s1.seq hl
   walk_at "go"
   refine ⟨l, ns, rfl, hl1, h8, fun H2 s2 => ?_⟩
   have hP2 := hP1.mono s2
   have hl2 := s2.seq hl1
   walk_at "go"
   refine wp_report_number (y := kR ns) hP2.at_ fun H3 hp3 s3 => ?_
   have sS3 := s3.sP hP2.at_
   walk_at "go"
   refine ⟨l, ns, rfl, sS3.seq hl2, h8, ?_⟩
   walk_at "go"
   refine wp_report_what (y := ns.getD 1 0) hp3 fun H4 hp4 s4 => ?_
   have sS4 := s4.sP hp3
   walk_at "go"
   refine ⟨l, ns, rfl, sS4.seq (sS3.seq hl2), h8, fun q H5 s5 hq e5 => ?_⟩
   walk_at "go"
   refine wp_report_state (y := .ref q) (hp4.mono s5) fun H6 hp6 s6 => ?_
   have e6 := (s6.sP (hp4.mono s5)).lst e5
   exact k H6 _ ⟨hp6, hP2.on, hP2.ow, hP2.oa, hP2.tk, ⟨q, _, _, _, rfl, e6, rfl⟩, hP2.le⟩ (((((SPx.Same.x (s1.trans s2)).trans s3).trans s4).mono s5).trans s6)
 · have q0 : ¬ b.last < kR ns := fun h => q0 (decide_eq_true (by omega))
   rw [if_neg q0] at k
   walk_at "go"
   exact k H1 _ hP1 (SPx.Same.x s1)
theorem sc_PeoplesEnd_heard : FnScope ["self", "m"] ["self", "m"] (defScope (inClass (top 87) 5)) := fS
def sp_PeoplesEnd_heard (T : Txt K mg) : Sp := fun vs H Q _ => ∃ (p l : Addr) (x : Pe) (b : Sr41.Base) (ns : List Nat), vs = [.ref p, .ref l] ∧ PeIs T H p x b ∧ SqL K H l (natV ns) ∧ ∀ H' q x', PeIs T H' p x' (hB b ns).1 → SameX p H H' → H q = none → H' q = some (.lst (intV (hB b ns).2)) → Q (.ref q) H'
theorem ok_PeoplesEnd_heard (T : Txt K mg) : FnOk P w K mg base CX0 5 T.people.PeoplesEnd_heard.a T.people.PeoplesEnd_heard.fd ["self", "m"] (sp_PeoplesEnd_heard T) := by
 refine T.people.PeoplesEnd_heard.F.ok sc_PeoplesEnd_heard (fun _ _ _ _ h => by obtain ⟨p, l, x, b, ns, rfl, _⟩ := h; rfl) (fun cdv A outer s H vs Q E hr h => ?_)
 obtain ⟨p, l, x, b, ns, rfl, hP, hl, k⟩ := h
 refine ⟨_, (pss_cons (ps_if (pt_val (cG T.messages.is_answer (ok_is_answer T) hr (pa_cons (pv 1) pa_nil))) (pss_cons (ps_expr (pe_meth (pv 0) T.people.PeoplesEnd.C T.people.PeoplesEnd_hear_answer.m (ok_PeoplesEnd_hear_answer T) (hr.mono (by decide)) T.people.PeoplesEnd_hear_answer.b .nil pass0 (pa_cons (pv 1) pa_nil)))
  (pss_one (ps_ret (pe_lst (pa_cons pe_int pa_nil))))) pss_nil)
  (pss_cons (ps_if (pt_val (cG T.messages.is_report (ok_is_report T) hr (pa_cons (pv 1) pa_nil))) (pss_cons (ps_expr (pe_meth (pv 0) T.people.PeoplesEnd.C T.people.PeoplesEnd_hear_report.m (ok_PeoplesEnd_hear_report T) (hr.mono (by decide)) T.people.PeoplesEnd_hear_report.b .nil pass0 (pa_cons (pv 1) pa_nil)))
  (pss_one (ps_ret (pe_lst (pa_cons pe_int pa_nil))))) pss_nil)
  (pss_one (ps_ret (pe_lst (pa_cons (pe_glob rfl T.messages.NO_MESSAGE.g T.messages.NO_MESSAGE.r) pa_nil)))))), ?_⟩
 try dsimp only [cxOf]
 rw [hB_of] at k
 walk_at "go"
 refine ⟨l, ns, rfl, hl, fun H1 s1 => ?_⟩
 have hP1 := hP.mono s1
 have hl1 := s1.seq hl
 cases hq : (isMs 2 ns && isOf ns) with
 | true =>
   rw [if_pos hq] at k
   walk_at "go"
   refine PeAt.meth hP1.at_ rfl ?_
   walk_at "go"
   refine ⟨p, l, x, b, ns, rfl, hP1, hl1, isMs_len ((Bool.and_eq_true _ _).mp hq).1, fun H2 x2 hP2 s2 => ?_⟩
   walk_at "go"
   refine w_small (by show 1 ≤ 1000; decide) fun q1 hq1 => ?_
   have t1 := Same.new (o := .lst [V.int 0]) hq1
   have sx : SameX p H H2 := (SPx.Same.x s1).trans s2
   obtain ⟨dx2, hp2⟩ := hP2.at_
   exact k _ q1 _ (hP2.mono t1) (sx.mono t1) (sx.free hp2 hq1) upd_same
 | false =>
   rw [if_neg (by rw [hq]; decide)] at k
   walk_at "go"
   refine ⟨l, ns, rfl, hl1, fun H2 s2 => ?_⟩
   have hP2 := hP1.mono s2
   have hl2 := s2.seq hl1
   cases hr' : isRp ns with
   | true =>
     rw [if_pos hr'] at k
     have h8 : ns.length = 8 := by
       have := hr'
       unfold isRp at this
       exact isMs_len ((Bool.and_eq_true _ _).mp this).1
     walk_at "go"
     refine PeAt.meth hP2.at_ rfl ?_
     walk_at "go"
     refine ⟨p, l, x, b, ns, rfl, hP2, hl2, h8, fun H3 x3 hP3 s3 => ?_⟩
     walk_at "go"
     refine w_small (by show 1 ≤ 1000; decide) fun q1 hq1 => ?_
     have t1 := Same.new (o := .lst [V.int 0]) hq1
     have sx : SameX p H H3 := (SPx.Same.x (s1.trans s2)).trans s3
     obtain ⟨dx3, hp3⟩ := hP3.at_
     exact k _ q1 _ (hP3.mono t1) (sx.mono t1) (sx.free hp3 hq1) upd_same
   | false =>
     rw [if_neg (by rw [hr']; decide)] at k
     walk_at "go"
     refine w_small (by show 1 ≤ 1000; decide) fun q1 hq1 => ?_
     have t1 := Same.new (o := .lst [V.int (-71)]) hq1
     exact k _ q1 _ (hP2.mono t1) (SPx.Same.x ((s1.trans s2).trans t1)) ((s1.trans s2).free hq1) upd_same
theorem sc_PeoplesEnd_awaits_answer : FnScope ["self"] ["self"] (defScope (inClass (top 87) 9)) := fS
def sp_PeoplesEnd_awaits_answer (T : Txt K mg) : Sp := fun vs H Q _ => ∃ (p : Addr) (x : Pe), vs = [.ref p] ∧ PeAt T H p x ∧ Q (.bl (!decide (x.on = 0) && !x.oa)) H
theorem ok_PeoplesEnd_awaits_answer (T : Txt K mg) : FnOk P w K mg base CX0 1 T.people.PeoplesEnd_awaits_answer.a T.people.PeoplesEnd_awaits_answer.fd ["self"] (sp_PeoplesEnd_awaits_answer T) := by
 refine T.people.PeoplesEnd_awaits_answer.F.ok sc_PeoplesEnd_awaits_answer (fun _ _ _ _ h => by obtain ⟨p, x, rfl, _⟩ := h; rfl) (fun cdv A outer s H vs Q E hr h => ?_)
 obtain ⟨p, x, rfl, hp, k⟩ := h
 refine ⟨_, (pss_one (ps_ret (pe_and (pe_cmpR op_ne (fldK K (pv 0) rfl) pe_int (nomark _)) (pe_one (pe_not (fldK K (pv 0) rfl)))))), ?_⟩
 try dsimp only [cxOf]
 walk_at "go"
 refine rp_order_number hp ?_
 walk_at "go"
 refine ite2 (fun q0 => ?_) (fun q0 => ?_)
 · rw [nat0] at q0
   walk_at "go"
   refine rp_order_answered hp ?_
   walk_at "go"
   refine qbl k ?_
   rw [q0, Bool.true_and]
 · rw [nat0, Bool.not_eq_true] at q0
   refine qbl k ?_
   rw [q0, Bool.false_and]
theorem sc_PeoplesEnd_tick : FnScope ["self"] ["self"] (defScope (inClass (top 87) 8)) := fS
def sp_PeoplesEnd_tick (T : Txt K mg) : Sp := fun vs H Q _ => ∃ (p : Addr) (x : Pe) (b : Sr41.Base), vs = [.ref p] ∧ PeIs T H p x b ∧ ∀ H' l x', PeIs T H' p x' (Sr41.bAct b (.bTick)).1 → SameX p H H' → H l = none → H' l = some (.lst (intV (ansB b (.bTick)))) → Q (.ref l) H'
theorem ok_PeoplesEnd_tick (T : Txt K mg) : FnOk P w K mg base CX0 5 T.people.PeoplesEnd_tick.a T.people.PeoplesEnd_tick.fd ["self"] (sp_PeoplesEnd_tick T) := by
 refine T.people.PeoplesEnd_tick.F.ok sc_PeoplesEnd_tick (fun _ _ _ _ h => by obtain ⟨p, x, b, rfl, _⟩ := h; rfl) (fun cdv A outer s H vs Q E hr h => ?_)
 obtain ⟨p, x, b, rfl, hP, k⟩ := h
 refine ⟨_, (pss_cons (faugK K (pv 0) pe_int in_add)
  (pss_cons (ps_if (PW.pt (pw_and (pt_cmpR op_eq (pe_op op_mod (fldK K (pv 0) rfl) (pe_glob rfl T.people.TICKS_BETWEEN.g T.people.TICKS_BETWEEN.r)) pe_int (nomark _)) (pw_and1 (pt_val (pe_meth0 (pv 0) T.people.PeoplesEnd.C T.people.PeoplesEnd_awaits_answer.m (ok_PeoplesEnd_awaits_answer T) (hr.mono (by decide)) T.people.PeoplesEnd_awaits_answer.b .nil pass0))))) (pss_one (ps_ret (pe_op op_cat (pe_lst (pa_cons pe_int pa_nil)) (pe_meth0 (pv 0) T.people.PeoplesEnd.C T.people.PeoplesEnd_sent_order.m (ok_PeoplesEnd_sent_order T) (hr.mono (by decide)) T.people.PeoplesEnd_sent_order.b .nil pass0)))) pss_nil)
  (pss_one (ps_ret (pe_lst (pa_cons pe_int pa_nil)))))), ?_⟩
 try dsimp only [cxOf]
 have no : ¬ ((b.ticks + 1) % 5 = 0 ∧ b.order ≠ 0 ∧ b.answered = false) → ansB b .bTick = [0] := fun h => by
   show [0] ++ (if _ then _ else _ : List Sr41.Ev).flatMap Sr41Neutral.told = _
   rw [if_neg h]
   rfl
 have yes : ((b.ticks + 1) % 5 = 0 ∧ b.order ≠ 0 ∧ b.answered = false) → ansB b .bTick = [0] ++ b.asks.flatMap Sr41Neutral.told := fun h => by
   show [0] ++ (if _ then _ else _ : List Sr41.Ev).flatMap Sr41Neutral.told = _
   rw [if_pos h]
 walk_at "go"
 refine fp_tick_count hP.at_ fun H1 hp1 s1 => ?_
 have hP1 : PeIs T H1 p _ { b with ticks := b.ticks + 1 } := hP.to s1 hp1 hP.on hP.ow hP.oa (by show x.tk + 1 = b.ticks + 1; rw [hP.tk]) rfl rfl rfl rfl hP.le
 obtain ⟨dx1, hpx1⟩ := id hp1
 have last : ¬ ((b.ticks + 1) % 5 = 0 ∧ b.order ≠ 0 ∧ b.answered = false) → ∀ l, H1 l = none → Q (.ref l) (upd H1 l (.lst [.int 0])) := fun h l hl => by
   have t1 := Same.new (o := .lst [V.int 0]) hl
   exact k _ l _ (hP1.mono t1) (s1.mono t1) (s1.free hpx1 hl) (by rw [no h, upd_same]; rfl)
 walk_at "go"
 refine rp_tick_count hp1 ?_
 walk_at "go"
 refine ite2 (fun q0 => ?_) (fun q0 => ?_)
 · have q0 : (b.ticks + 1) % 5 = 0 := by
     have := of_decide_eq_true q0
     have e : (({ x with tk := x.tk + 1 } : Pe).tk : Int) = ((b.ticks + 1 : Nat) : Int) := by
       show ((x.tk + 1 : Nat) : Int) = _
       rw [hP.tk]
     rw [e] at this
     omega
   walk_at "go"
   refine PeAt.meth hp1 rfl ?_
   walk_at "go"
   refine ⟨p, _, rfl, hp1, ?_⟩
   walk_at "go"
   refine ite2 (fun q1 => ?_) (fun q1 => ?_)
   · rw [Bool.and_eq_true, Bool.not_eq_true', Bool.not_eq_true', decide_eq_false_iff_not] at q1
     have q1 : b.order ≠ 0 ∧ b.answered = false := ⟨fun e => q1.1 (hP.on.trans e), hP.oa ▸ q1.2⟩
     walk_at "go"
     refine w_small (by show 1 ≤ 1000; decide) fun l1 hl1 => ?_
     have t1 := Same.new (o := .lst [V.int 0]) hl1
     walk_at "go"
     refine PeAt.meth (hp1.mono t1) rfl ?_
     walk_at "go"
     refine ⟨p, _, rfl, hp1.mono t1, fun q2 H5 s5 hq2 e5 => ?_⟩
     walk_at "go"
     refine w_cat (s5 _ _ upd_same) e5 (by show 1 + 9 ≤ 1000; decide) fun q3 hq3 => ?_
     have t5 := t1.trans s5
     have t6 := t5.trans (Same.new (o := .lst ([V.int 0] ++ (V.int 1 :: natV (Sr41.bytesOf (.order x.ow x.on))))) hq3)
     refine k _ q3 _ (hP1.mono t6) (s1.mono t6) (s1.free hpx1 (t5.free hq3)) ?_
     rw [yes ⟨q0, q1⟩, upd_same, asks_told, ← hP.on, ← hP.ow]
   · walk_at "go"
     refine w_small (by show 1 ≤ 1000; decide) fun l hl => ?_
     refine last (fun h => q1 ?_) l hl
     rw [Bool.and_eq_true, Bool.not_eq_true', Bool.not_eq_true', decide_eq_false_iff_not]
     exact ⟨fun e => h.2.1 (hP.on.symm.trans e), hP.oa.trans h.2.2⟩
 · walk_at "go"
   refine w_small (by show 1 ≤ 1000; decide) fun l hl => ?_
   refine last (fun h => q0 (decide_eq_true ?_)) l hl
   have e : (({ x with tk := x.tk + 1 } : Pe).tk : Int) = ((b.ticks + 1 : Nat) : Int) := by
     show ((x.tk + 1 : Nat) : Int) = _
     rw [hP.tk]
   rw [e]
   omega
theorem sc_PeoplesEnd_told_state : FnScope ["self", "answered", "last_order", "last_report"] ["self"] (defScope (inClass (top 87) 10)) := fS
def sp_PeoplesEnd_told_state (T : Txt K mg) : Sp := fun vs H Q _ => ∃ (p : Addr) (x : Pe) (b : Sr41.Base), vs = [.ref p] ∧ PeIs T H p x b ∧ ∀ H' l, Same H H' → H l = none → H' l = some (.lst (intV (ansB b .bState))) → Q (.ref l) H'
theorem ok_PeoplesEnd_told_state (T : Txt K mg) : FnOk P w K mg base CX0 1 T.people.PeoplesEnd_told_state.a T.people.PeoplesEnd_told_state.fd ["self"] (sp_PeoplesEnd_told_state T) := by
 refine T.people.PeoplesEnd_told_state.F.ok sc_PeoplesEnd_told_state (fun _ _ _ _ h => by obtain ⟨p, x, b, rfl, _⟩ := h; rfl) (fun cdv A outer s H vs Q E hr h => ?_)
 obtain ⟨p, x, b, rfl, hP, k⟩ := h
 refine ⟨_, (pss_cons (sA 1 sc_PeoplesEnd_told_state.nd (pe_ifExp (pt_val (fldK K (pv 0) rfl)) pe_int pe_int))
  (pss_cons (sA 2 sc_PeoplesEnd_told_state.nd (pe_lst (pa_cons (fldK K (pv 0) rfl) (pa_cons (fldK K (pv 0) rfl) (pa_cons (pv 1) pa_nil)))))
  (pss_cons (sA 3 sc_PeoplesEnd_told_state.nd (pe_op op_cat (pe_lst (pa_cons (fldK K (pv 0) rfl) (pa_cons (fldK K (pv 0) rfl) pa_nil))) (fldK K (pv 0) rfl)))
  (pss_one (ps_ret (pe_op op_cat (pe_op op_cat (pe_lst (pa_cons pe_int pa_nil)) (pv 2)) (pv 3))))))), ?_⟩
 try dsimp only [cxOf]
 obtain ⟨rl, c, d, e, e1, e2, e3⟩ := hP.rep
 walk_at "go"
 refine rp_order_answered hP.at_ ?_
 walk_at "go"
 refine ite2 (fun q0 => ?_) (fun q0 => ?_)
 · have eb : b.answered = true := hP.oa.symm.trans q0
   walk_at "go"
   refine rp_order_number hP.at_ ?_
   walk_at "go"
   refine rp_order_what hP.at_ ?_
   walk_at "go"
   refine w_small (by show 3 ≤ 1000; decide) fun a1 ha1 => ?_
   have t1 := Same.new (o := .lst [V.int (x.on : Int), V.int (x.ow : Int), V.int 1]) ha1
   have hP1 := hP.mono t1
   walk_at "go"
   refine rp_report_number hP1.at_ ?_
   walk_at "go"
   refine rp_report_what hP1.at_ ?_
   walk_at "go"
   refine w_small (by show 2 ≤ 1000; decide) fun a2 ha2 => ?_
   have t2 := Same.new (o := .lst [V.int (x.rn : Int), V.int (x.rw : Int)]) ha2
   have hP2 := hP1.mono t2
   walk_at "go"
   refine rp_report_state hP2.at_ ?_
   rw [e1]
   refine w_cat upd_same (t2 _ _ (t1 _ _ e2)) (by show 2 + 3 ≤ 1000; decide) fun a3 ha3 => ?_
   have t3 := Same.new (o := .lst ([V.int (x.rn : Int), V.int (x.rw : Int)] ++ natV [c, d, e])) ha3
   walk_at "go"
   refine w_small (by show 1 ≤ 1000; decide) fun a4 ha4 => ?_
   have t4 := Same.new (o := .lst [V.int 0]) ha4
   walk_at "go"
   refine w_cat upd_same (t4 _ _ (t3 _ _ (t2 _ _ upd_same))) (by show 1 + 3 ≤ 1000; decide) fun a5 ha5 => ?_
   have t5 := Same.new (o := .lst ([V.int 0] ++ [V.int (x.on : Int), V.int (x.ow : Int), V.int 1])) ha5
   walk_at "go"
   refine w_cat upd_same (t5 _ _ (t4 _ _ upd_same)) (by show 4 + 5 ≤ 1000; decide) fun a6 ha6 => ?_
   have t15 := (((t1.trans t2).trans t3).trans t4).trans t5
   refine k _ a6 (t15.trans (Same.new ha6)) (t15.free ha6) ?_
   have ea : ansB b .bState = [0, (x.on : Int), (x.ow : Int), 1, (x.rn : Int), (x.rw : Int), (c : Int), (d : Int), (e : Int)] := by
     show 0 :: Sr41Neutral.ints ([b.order, b.what, if b.answered then 1 else 0] ++ b.report) ++ [] = _
     rw [e3, eb, ← hP.on, ← hP.ow]
     rfl
   rw [ea, upd_same]
   rfl
 · have eb : b.answered = false := hP.oa.symm.trans (Bool.eq_false_iff.mpr q0)
   walk_at "go"
   refine rp_order_number hP.at_ ?_
   walk_at "go"
   refine rp_order_what hP.at_ ?_
   walk_at "go"
   refine w_small (by show 3 ≤ 1000; decide) fun a1 ha1 => ?_
   have t1 := Same.new (o := .lst [V.int (x.on : Int), V.int (x.ow : Int), V.int 0]) ha1
   have hP1 := hP.mono t1
   walk_at "go"
   refine rp_report_number hP1.at_ ?_
   walk_at "go"
   refine rp_report_what hP1.at_ ?_
   walk_at "go"
   refine w_small (by show 2 ≤ 1000; decide) fun a2 ha2 => ?_
   have t2 := Same.new (o := .lst [V.int (x.rn : Int), V.int (x.rw : Int)]) ha2
   have hP2 := hP1.mono t2
   walk_at "go"
   refine rp_report_state hP2.at_ ?_
   rw [e1]
   refine w_cat upd_same (t2 _ _ (t1 _ _ e2)) (by show 2 + 3 ≤ 1000; decide) fun a3 ha3 => ?_
   have t3 := Same.new (o := .lst ([V.int (x.rn : Int), V.int (x.rw : Int)] ++ natV [c, d, e])) ha3
   walk_at "go"
   refine w_small (by show 1 ≤ 1000; decide) fun a4 ha4 => ?_
   have t4 := Same.new (o := .lst [V.int 0]) ha4
   walk_at "go"
   refine w_cat upd_same (t4 _ _ (t3 _ _ (t2 _ _ upd_same))) (by show 1 + 3 ≤ 1000; decide) fun a5 ha5 => ?_
   have t5 := Same.new (o := .lst ([V.int 0] ++ [V.int (x.on : Int), V.int (x.ow : Int), V.int 0])) ha5
   walk_at "go"
   refine w_cat upd_same (t5 _ _ (t4 _ _ upd_same)) (by show 4 + 5 ≤ 1000; decide) fun a6 ha6 => ?_
   have t15 := (((t1.trans t2).trans t3).trans t4).trans t5
   refine k _ a6 (t15.trans (Same.new ha6)) (t15.free ha6) ?_
   have ea : ansB b .bState = [0, (x.on : Int), (x.ow : Int), 0, (x.rn : Int), (x.rw : Int), (c : Int), (d : Int), (e : Int)] := by
     show 0 :: Sr41Neutral.ints ([b.order, b.what, if b.answered then 1 else 0] ++ b.report) ++ [] = _
     rw [e3, eb, ← hP.on, ← hP.ow]
     rfl
   rw [ea, upd_same]
   rfl
end
section
inductive CallC : Nat → List Int → List Int → Option Sr41.Craft → Option Sr41.Craft → List Int → Prop
 | startG {w h d x y n1 n2 : Nat} {l : List Int} {o : Option Sr41.Craft} (h4 : l.length % 4 = 0) (h36 : l.length ≤ 36) (hg : Sr40.good ⟨w, h, d, x, y, [n1, n2], Sr41Neutral.boxes l⟩ = true) : CallC 0 [(w : Int), (h : Int), (d : Int), (x : Int), (y : Int), (n1 : Int), (n2 : Int)] l o (some (Sr41.startC ⟨w, h, d, x, y, [n1, n2], Sr41Neutral.boxes l⟩)) [0]
 | startN {w h d x y n1 n2 : Nat} {l : List Int} {o : Option Sr41.Craft} (h4 : l.length % 4 = 0) (h36 : l.length ≤ 36) (hg : Sr40.good ⟨w, h, d, x, y, [n1, n2], Sr41Neutral.boxes l⟩ = false) : CallC 0 [(w : Int), (h : Int), (d : Int), (x : Int), (y : Int), (n1 : Int), (n2 : Int)] l o o [-22]
 | tick {a b c d : Int} {row : List Int} {r r' : Sr41.Craft} {w : Nat} {bn : Sr40.Burn} (hd : Sr41Neutral.doesF r ⟨a, b, c, d⟩ = some (w, bn, r')) : CallC 1 [a, b, c, d] row (some r) (some { r' with ticks := r.ticks + 1 }) (tickA ⟨a, b, c, d⟩ w bn (r.ticks + 1))
 | heard {ns : List Nat} {row : List Int} {r : Sr41.Craft} (hr : intV row = natV ns) : CallC 2 [] row (some r) (some (hC r ns).1) (hC r ns).2
 | state {row : List Int} {r : Sr41.Craft} : CallC 3 [] row (some r) (some r) [0, (r.mode : Int), (r.counts : Int), (r.order : Int), (r.ticks : Int)]
inductive CallP : Nat → List Int → List Int → Option Sr41.Base → Option Sr41.Base → List Int → Prop
 | start {row : List Int} {o : Option Sr41.Base} : CallP 4 [] row o (some Sr41.startB) [0]
 | order {n : Nat} {row : List Int} {b : Sr41.Base} : CallP 5 [(n : Int)] row (some b) (some (Sr41.bAct b (.order n)).1) (ansB b (.order n))
 | heard {ns : List Nat} {row : List Int} {b : Sr41.Base} (hr : intV row = natV ns) : CallP 6 [] row (some b) (some (hB b ns).1) (hB b ns).2
 | tick {row : List Int} {b : Sr41.Base} : CallP 7 [] row (some b) (some (Sr41.bAct b .bTick).1) (ansB b .bTick)
 | state {row : List Int} {b : Sr41.Base} : CallP 8 [] row (some b) (some b) (ansB b .bState)
def CallR2 (c : Nat) (ns row : List Int) (S S' : Sr41Neutral.S) (ans : List Int) : Prop := (CallC c ns row S.1 S'.1 ans ∧ S'.2 = S.2) ∨ (CallP c ns row S.2 S'.2 ans ∧ S'.1 = S.1)
theorem nat_of {z : Int} {k : Nat} (h : Sr41Neutral.natural z k = true) : 0 ≤ z := by
 unfold Sr41Neutral.natural at h
 rw [Bool.and_eq_true] at h
 exact of_decide_eq_true h.1
theorem nats_of {l : List Int} {k : Nat} (h : l.all (fun (z : Int) => Sr41Neutral.natural z k) = true) : ∀ z ∈ l, 0 ≤ z := fun z hz => nat_of (List.all_eq_true.mp h z hz)
theorem craft_map {S S' : Sr41Neutral.S} {s : Sr40.State} {c : Sr41.Call} {ans : List Int} (h : Sr41Neutral.byCraft S s c = some (S', ans)) : ∃ r y, S.1 = some r ∧ Sr41Neutral.reckonC r s c = some y ∧ S' = (some y.2.1, S.2) ∧ ans = Sr41Neutral.given y.2.2 ++ y.1.flatMap Sr41Neutral.told := by
 unfold Sr41Neutral.byCraft at h
 cases e : S.1 with
 | none =>
   rw [e] at h
   cases h
 | some r =>
   rw [e] at h
   dsimp only at h
   cases e2 : Sr41Neutral.reckonC r s c with
   | none =>
     rw [e2] at h
     cases h
   | some y =>
     rw [e2] at h
     cases h
     exact ⟨r, y, rfl, e2, rfl, rfl⟩
theorem base_map {S S' : Sr41Neutral.S} {c : Sr41.Call} {ans : List Int} (h : Sr41Neutral.byBase S c = some (S', ans)) : ∃ b, S.2 = some b ∧ S' = (S.1, some (Sr41.bAct b c).1) ∧ ans = ansB b c := by
 unfold Sr41Neutral.byBase at h
 cases e : S.2 with
 | none =>
   rw [e] at h
   cases h
 | some b =>
   rw [e] at h
   cases h
   exact ⟨b, rfl, rfl, rfl⟩
theorem heard_map {r : Sr41.Craft} {s : Sr40.State} {l : List Int} {y : List Sr41.Ev × Sr41.Craft × Sr41.Ans} (h : Sr41Neutral.reckonC r s (.heard (Sr41Neutral.eight l)) = some y) : y.2.1 = (hC r (Sr41Neutral.nats l)).1 ∧ Sr41Neutral.given y.2.2 ++ y.1.flatMap Sr41Neutral.told = (hC r (Sr41Neutral.nats l)).2 := by
 unfold Sr41Neutral.reckonC at h
 dsimp only at h
 rw [msg_eight] at h
 unfold hC
 cases e : Sr41.messageOf (Sr41Neutral.nats l) with
 | none =>
   rw [e] at h
   cases h
   exact ⟨rfl, rfl⟩
 | some m =>
   rw [e] at h
   cases m with
   | order w k =>
     dsimp only at h ⊢
     by_cases h1 : r.order < k
     · rw [if_pos h1] at h ⊢
       cases h
       refine ⟨rfl, ?_⟩
       show [0] ++ ((1 :: Sr41Neutral.ints _) ++ []) = _
       rw [List.append_nil]
       rfl
     · rw [if_neg h1] at h ⊢
       by_cases h2 : k = r.order
       · rw [if_pos h2] at h ⊢
         cases h
         refine ⟨rfl, ?_⟩
         show [0] ++ ((1 :: Sr41Neutral.ints _) ++ []) = _
         rw [List.append_nil]
         rfl
       · rw [if_neg h2] at h ⊢
         cases h
         exact ⟨rfl, rfl⟩
   | answer w k =>
     cases h
     exact ⟨rfl, rfl⟩
   | report w x y' v k =>
     cases h
     exact ⟨rfl, rfl⟩
theorem bytes_of {l : List Int} (h : Sr41Neutral.okBytes l = true) : intV l = natV (Sr41Neutral.nats l) := by
 unfold Sr41Neutral.okBytes at h
 rw [Bool.and_eq_true] at h
 exact intV_nats (nats_of h.1)
open Sr41Neutral in
theorem tried_call {S S' : Sr41Neutral.S} {c : List (List Int)} {ans : List Int} (ha : asked1 c = true) (ht : tried S c = some (S', ans)) : ∃ (cn : Nat) (ns row : List Int), ((c = [(cn : Int) :: ns] ∧ row = []) ∨ c = [(cn : Int) :: ns, row]) ∧ CallR2 cn ns row S S' ans := by
 unfold asked1 at ha
 split at ha
 · rename_i w h d x y n o l
   simp only [Bool.and_eq_true, List.all_cons, List.all_nil, and_true] at ha
   obtain ⟨⟨h1, h2, h3, h4, h5, h6, h7⟩, _, h9, h10⟩ := ha
   have h9 := of_decide_eq_true h9
   have h10 := of_decide_eq_true h10
   obtain ⟨w, rfl⟩ := Int.eq_ofNat_of_zero_le (nat_of h1)
   obtain ⟨h, rfl⟩ := Int.eq_ofNat_of_zero_le (nat_of h2)
   obtain ⟨d, rfl⟩ := Int.eq_ofNat_of_zero_le (nat_of h3)
   obtain ⟨x, rfl⟩ := Int.eq_ofNat_of_zero_le (nat_of h4)
   obtain ⟨y, rfl⟩ := Int.eq_ofNat_of_zero_le (nat_of h5)
   obtain ⟨n, rfl⟩ := Int.eq_ofNat_of_zero_le (nat_of h6)
   obtain ⟨o, rfl⟩ := Int.eq_ofNat_of_zero_le (nat_of h7)
   refine ⟨0, _, l, .inr rfl, .inl ?_⟩
   have ht : (if Sr40.good ⟨w, h, d, x, y, [n, o], boxes l⟩ = true then some ((some (Sr41.startC ⟨w, h, d, x, y, [n, o], boxes l⟩), S.2), [0]) else some (S, [-22])) = some (S', ans) := ht
   by_cases hg : Sr40.good ⟨w, h, d, x, y, [n, o], boxes l⟩ = true
   · rw [if_pos hg] at ht
     cases ht
     exact ⟨.startG h9 h10 hg, rfl⟩
   · rw [if_neg hg] at ht
     cases ht
     exact ⟨.startN h9 h10 (by simpa using hg), rfl⟩
 · rename_i a b c d
   obtain ⟨r, y, e1, e2, e3, e4⟩ := craft_map (show byCraft S ⟨a, b, c, d⟩ .tick = some (S', ans) from ht)
   refine ⟨1, _, [], .inl ⟨rfl, rfl⟩, .inl ?_⟩
   subst e3 e4
   unfold reckonC at e2
   dsimp only at e2
   cases e5 : doesF r ⟨a, b, c, d⟩ with
   | none =>
     rw [e5] at e2
     cases e2
   | some z =>
     rw [e5] at e2
     cases e2
     rw [e1]
     exact ⟨.tick e5, rfl⟩
 · rename_i m
   obtain ⟨r, y, e1, e2, e3, e4⟩ := craft_map (show byCraft S ⟨0, 0, 0, 0⟩ (.heard (eight m)) = some (S', ans) from ht)
   obtain ⟨e5, e6⟩ := heard_map e2
   refine ⟨2, _, m, .inr rfl, .inl ?_⟩
   subst e3
   rw [e1, e4, e6, e5]
   exact ⟨.heard (bytes_of ha), rfl⟩
 · obtain ⟨r, y, e1, e2, e3, e4⟩ := craft_map (show byCraft S ⟨0, 0, 0, 0⟩ .state = some (S', ans) from ht)
   refine ⟨3, _, [], .inl ⟨rfl, rfl⟩, .inl ?_⟩
   cases e2
   subst e3 e4
   rw [e1]
   exact ⟨.state, rfl⟩
 · have ht : some ((S.1, some Sr41.startB), [0]) = some (S', ans) := ht
   cases ht
   exact ⟨4, _, [], .inl ⟨rfl, rfl⟩, .inr ⟨.start, rfl⟩⟩
 · rename_i w
   obtain ⟨w, rfl⟩ := Int.eq_ofNat_of_zero_le (nat_of ha)
   obtain ⟨b, e1, e2, e3⟩ := base_map (show byBase S (.order w) = some (S', ans) from ht)
   refine ⟨5, _, [], .inl ⟨rfl, rfl⟩, .inr ?_⟩
   subst e2 e3
   rw [e1]
   exact ⟨.order, rfl⟩
 · rename_i m
   obtain ⟨b, e1, e2, e3⟩ := base_map (show byBase S (.bHeard (eight m)) = some (S', ans) from ht)
   refine ⟨6, _, m, .inr rfl, .inr ?_⟩
   obtain ⟨e4, e5⟩ := hB_act b m
   subst e2
   rw [e1, e3, e5]
   show CallP 6 [] m (some b) (some _) _ ∧ _
   rw [e4]
   exact ⟨.heard (bytes_of ha), rfl⟩
 · obtain ⟨b, e1, e2, e3⟩ := base_map (show byBase S .bTick = some (S', ans) from ht)
   refine ⟨7, _, [], .inl ⟨rfl, rfl⟩, .inr ?_⟩
   subst e2 e3
   rw [e1]
   exact ⟨.tick, rfl⟩
 · obtain ⟨b, e1, e2, e3⟩ := base_map (show byBase S .bState = some (S', ans) from ht)
   refine ⟨8, _, [], .inl ⟨rfl, rfl⟩, .inr ?_⟩
   subst e2 e3
   rw [e1]
   exact ⟨.state, rfl⟩
 · cases ha
theorem hC_len (r : Sr41.Craft) (ns : List Nat) : (hC r ns).2.length ≤ 20 := by
 unfold hC
 split
 · split
   · show 10 ≤ 20
     decide
   · split
     · show 10 ≤ 20
       decide
     · show 1 ≤ 20
       decide
 · show 1 ≤ 20
   decide
theorem hB_len (b : Sr41.Base) (ns : List Nat) : (hB b ns).2.length ≤ 20 := by
 unfold hB
 split <;> (show 1 ≤ 20; decide)
theorem tickA_len (s : Sr40.State) (w : Nat) (b : Sr40.Burn) (k : Nat) : (tickA s w b k).length ≤ 20 := by
 rw [← intV_len]
 by_cases h : b = ⟨0, 0⟩
 · rw [h, tickA_0, List.length_append, rep_len1]
   show 1 + 9 ≤ 20
   decide
 · rw [tickA_1 s w h, List.length_append, rep_len1]
   show 4 + 9 ≤ 20
   decide
theorem call_lenC {c : Nat} {ns row : List Int} {o o' : Option Sr41.Craft} {ans : List Int} (h : CallC c ns row o o' ans) : ans.length ≤ 20 := by
 cases h with
 | startG _ _ _ => decide
 | startN _ _ _ => decide
 | tick _ => exact tickA_len _ _ _ _
 | heard _ => exact hC_len _ _
 | state => show 5 ≤ 20; decide
def RepOk : Option Sr41.Base → Prop
 | none => True
 | some b => b.report.length = 5
theorem call_lenP {c : Nat} {ns row : List Int} {o o' : Option Sr41.Base} {ans : List Int} (hR : RepOk o) (h : CallP c ns row o o' ans) : ans.length ≤ 20 := by
 cases h with
 | start => decide
 | order =>
   unfold ansB Sr41.bAct
   dsimp only
   split
   · show 1 ≤ 20
     decide
   · split
     · show 1 ≤ 20
       decide
     · show 10 ≤ 20
       decide
 | heard _ => exact hB_len _ _
 | tick =>
   unfold ansB Sr41.bAct
   dsimp only
   split
   · show 10 ≤ 20
     decide
   · show 1 ≤ 20
     decide
 | state =>
   rename_i b
   have hR : b.report.length = 5 := hR
   show (0 :: Sr41Neutral.ints ([b.order, b.what, if b.answered then 1 else 0] ++ b.report) ++ []).length ≤ 20
   unfold Sr41Neutral.ints
   rw [List.append_nil, List.length_cons, List.length_map, List.length_append, hR]
   show 3 + 5 + 1 ≤ 20
   decide
def NUMS : List Int := [7, 4, 0, 0, 0, 1, 0, 0, 0]
def ROWS : List Bool := [true, false, true, false, false, false, true, false, false]
theorem shape_of {p : Int} {n k : Nat} (h : PySr41.shape p = some (n, k)) : ∃ cn : Nat, p = (cn : Int) ∧ NUMS[cn]? = some (n : Int) ∧ ((k = 0 ∧ ROWS[cn]? = some false) ∨ (k = 1 ∧ ROWS[cn]? = some true)) := by
 unfold PySr41.shape at h
 split at h
 · rename_i e
   cases h
   exact ⟨0, e, rfl, .inr ⟨rfl, rfl⟩⟩
 split at h
 · rename_i e
   cases h
   exact ⟨1, e, rfl, .inl ⟨rfl, rfl⟩⟩
 split at h
 · rename_i e
   cases h
   exact ⟨2, e, rfl, .inr ⟨rfl, rfl⟩⟩
 split at h
 · rename_i e
   cases h
   exact ⟨3, e, rfl, .inl ⟨rfl, rfl⟩⟩
 split at h
 · rename_i e
   cases h
   exact ⟨4, e, rfl, .inl ⟨rfl, rfl⟩⟩
 split at h
 · rename_i e
   cases h
   exact ⟨5, e, rfl, .inl ⟨rfl, rfl⟩⟩
 split at h
 · rename_i e
   cases h
   exact ⟨6, e, rfl, .inr ⟨rfl, rfl⟩⟩
 split at h
 · rename_i e
   cases h
   exact ⟨7, e, rfl, .inl ⟨rfl, rfl⟩⟩
 split at h
 · rename_i e
   cases h
   exact ⟨8, e, rfl, .inl ⟨rfl, rfl⟩⟩
 cases h
theorem call_read {p : Int} {r : List Int} {c : List (List Int)} {t : List Int} (h : PyFlat.call PySr41.shape (p :: r) = some (c, t)) : ∃ (cn n : Nat), p = (cn : Int) ∧ NUMS[cn]? = some (n : Int) ∧ n ≤ r.length ∧
   ((ROWS[cn]? = some false ∧ c = [p :: r.take n] ∧ t = r.drop n) ∨ (ROWS[cn]? = some true ∧ ∃ (k : Nat) (r2 : List Int), r.drop n = (k : Int) :: r2 ∧ k ≤ r2.length ∧ c = [p :: r.take n, r2.take k] ∧ t = r2.drop k)) := by
 unfold PyFlat.call at h
 dsimp only at h
 cases e : PySr41.shape p with
 | none =>
   rw [e] at h
   cases h
 | some nk =>
   obtain ⟨n, k⟩ := nk
   rw [e] at h
   dsimp only at h
   obtain ⟨cn, e1, e2, e3⟩ := shape_of e
   by_cases hl : r.length < n
   · rw [if_pos hl] at h
     cases h
   rw [if_neg hl] at h
   refine ⟨cn, n, e1, e2, by omega, ?_⟩
   rcases e3 with ⟨rfl, e3⟩ | ⟨rfl, e3⟩
   · cases h
     exact .inl ⟨e3, rfl, rfl⟩
   · refine .inr ⟨e3, ?_⟩
     cases hr : r.drop n with
     | nil =>
       rw [hr] at h
       cases h
     | cons z r2 =>
       rw [hr] at h
       unfold PyFlat.rows PyFlat.row at h
       dsimp only at h
       by_cases hz : 0 ≤ z ∧ z.toNat ≤ r2.length
       · rw [if_pos hz] at h
         obtain ⟨k, rfl⟩ := Int.eq_ofNat_of_zero_le hz.1
         cases h
         exact ⟨k, r2, rfl, hz.2, rfl, rfl⟩
       · rw [if_neg hz] at h
         cases h
theorem whole_id (c : List (List Int)) : PySr41.whole c = c := by
 unfold PySr41.whole
 split <;> rfl
structure Rest (l : List Int) (pos : Nat) (S : Sr41Neutral.S) (cs : List (List (List Int))) (out : List Int) : Prop where
 le : pos ≤ l.length
 calls : ∃ f, PyFlat.calls PySr41.shape f (l.drop pos) = some cs
 ok : cs.all Sr41Neutral.asked1 = true
 due : (Sr41Neutral.answers S cs).isSome = true
 all_ : PySr41.answers l = out ++ PyFlat.told (PyFlat.played Sr41Neutral.step S cs)
 few : out.length + 21 * cs.length ≤ 4200
theorem rest_start {l : List Int} (h : PySr41.answers_asked l = true) : ∃ cs, Rest l 0 Sr41Neutral.start cs [] := by
 unfold PySr41.answers_asked at h
 cases e : PySr41.calls l with
 | none =>
   rw [e] at h
   cases h
 | some cs =>
   rw [e] at h
   dsimp only at h
   unfold Sr41Neutral.asked PyFlat.atMost at h
   simp only [Bool.and_eq_true, decide_eq_true_eq] at h
   obtain ⟨h1, h2, h3, h4, h5⟩ := h
   have ew : ∀ cs : List (List (List Int)), cs.map PySr41.whole = cs := fun cs => by
     rw [show PySr41.whole = id from funext whole_id, List.map_id]
   refine ⟨cs, Nat.zero_le _, ⟨l.length, ?_⟩, h4, h5, ?_, ?_⟩
   · unfold PySr41.calls at e
     cases e2 : PyFlat.calls PySr41.shape l.length l with
     | none =>
       rw [e2] at e
       cases e
     | some ds =>
       rw [e2] at e
       dsimp only at e
       rw [ew] at e
       cases e
       exact e2
   · unfold PySr41.answers
     rw [e]
     rfl
   · show 0 + 21 * cs.length ≤ 4200
     omega
theorem rest_end {l : List Int} {pos : Nat} {S : Sr41Neutral.S} {cs : List (List (List Int))} {out : List Int} (R : Rest l pos S cs out) (h : ¬ pos < l.length) : PySr41.answers l = out := by
 obtain ⟨f, hf⟩ := R.calls
 rw [List.drop_eq_nil_of_le (by omega)] at hf
 have e : cs = [] := by
   cases f <;> (cases hf; rfl)
 rw [R.all_, e]
 exact List.append_nil _
theorem rest_next {l : List Int} {pos : Nat} {S : Sr41Neutral.S} {cs : List (List (List Int))} {out : List Int} (R : Rest l pos S cs out) (h : pos < l.length) : ∃ (cn n : Nat) (S' : Sr41Neutral.S) (ans row : List Int) (cs' : List (List (List Int))), l[pos]? = some (cn : Int) ∧ NUMS[cn]? = some (n : Int) ∧ pos + 1 + n ≤ l.length ∧ CallR2 cn ((l.drop (pos + 1)).take n) row S S' ans ∧
   ((ROWS[cn]? = some false ∧ row = [] ∧ (ans.length ≤ 20 → Rest l (pos + 1 + n) S' cs' (out ++ ((ans.length : Int) :: ans)))) ∨
    (ROWS[cn]? = some true ∧ ∃ k : Nat, l[pos + 1 + n]? = some (k : Int) ∧ pos + 1 + n + 1 + k ≤ l.length ∧ row = (l.drop (pos + 1 + n + 1)).take k ∧ (ans.length ≤ 20 → Rest l (pos + 1 + n + 1 + k) S' cs' (out ++ ((ans.length : Int) :: ans))))) := by
 obtain ⟨f, hf⟩ := R.calls
 rw [List.drop_eq_getElem_cons h] at hf
 cases f with
 | zero => cases hf
 | succ f =>
   unfold PyFlat.calls at hf
   try dsimp only at hf
   cases e : PyFlat.call PySr41.shape (l[pos] :: l.drop (pos + 1)) with
   | none =>
     rw [e] at hf
     cases hf
   | some ct =>
     obtain ⟨c, t⟩ := ct
     rw [e] at hf
     dsimp only at hf
     cases e2 : PyFlat.calls PySr41.shape f t with
     | none =>
       rw [e2] at hf
       cases hf
     | some cs' =>
       rw [e2] at hf
       cases hf
       have hok := R.ok
       rw [List.all_cons, Bool.and_eq_true] at hok
       have hdue := R.due
       unfold Sr41Neutral.answers at hdue
       cases ht : Sr41Neutral.tried S c with
       | none =>
         rw [ht] at hdue
         cases hdue
       | some y =>
         obtain ⟨S', ans⟩ := y
         rw [ht] at hdue
         dsimp only at hdue
         have hdue' : (Sr41Neutral.answers S' cs').isSome = true := by
           rw [Option.isSome_map] at hdue
           exact hdue
         have hstep : Sr41Neutral.step S c = (S', ans) := by
           unfold Sr41Neutral.step
           rw [ht]
         have hall : PySr41.answers l = (out ++ ((ans.length : Int) :: ans)) ++ PyFlat.told (PyFlat.played Sr41Neutral.step S' cs') := by
           rw [R.all_]
           show out ++ PyFlat.told ((Sr41Neutral.step S c).2 :: PyFlat.played Sr41Neutral.step (Sr41Neutral.step S c).1 cs') = _
           rw [hstep, List.append_assoc]
           rfl
         have hfew := R.few
         rw [List.length_cons] at hfew
         have mk : ∀ q, q ≤ l.length → t = l.drop q → ans.length ≤ 20 → Rest l q S' cs' (out ++ ((ans.length : Int) :: ans)) := fun q hq et h20 => ⟨hq, ⟨f, et ▸ e2⟩, hok.2, hdue', hall, by
           rw [List.length_append, List.length_cons]
           omega⟩
         obtain ⟨cn, n, ep, e3, e4, e5⟩ := call_read e
         obtain ⟨cn', ns, row, hc, hR⟩ := tried_call hok.1 ht
         rw [List.length_drop] at e4
         refine ⟨cn, n, S', ans, row, cs', by rw [List.getElem?_eq_getElem h, ep], e3, by omega, ?_⟩
         rcases e5 with ⟨e6, ec, et⟩ | ⟨e6, k, r2, ed, ek, ec, et⟩
         · rcases hc with ⟨hc, er⟩ | hc
           · rw [ec] at hc
             injection hc with hc _
             injection hc with h1 h2
             have h3 : cn' = cn := by omega
             subst h3 h2
             refine ⟨hR, .inl ⟨e6, er, mk _ (by omega) ?_⟩⟩
             rw [et, List.drop_drop]
           · rw [ec] at hc
             injection hc with _ hc
             cases hc
         · rcases hc with ⟨hc, er⟩ | hc
           · rw [ec] at hc
             injection hc with _ hc
             cases hc
           · rw [ec] at hc
             injection hc with hc h4
             injection h4 with h4 _
             injection hc with h1 h2
             have h3 : cn' = cn := by omega
             subst h3 h2
             rw [List.drop_drop] at ed
             have hlt : pos + 1 + n < l.length := by
               by_cases hh : pos + 1 + n < l.length
               · exact hh
               · rw [List.drop_eq_nil_of_le (by omega)] at ed
                 cases ed
             rw [List.drop_eq_getElem_cons hlt] at ed
             injection ed with ed1 ed2
             have hl2 := congrArg List.length ed2
             rw [List.length_drop] at hl2
             refine ⟨hR, .inr ⟨e6, k, by rw [List.getElem?_eq_getElem hlt, ed1], by omega, by rw [← h4, ed2], mk _ (by omega) ?_⟩⟩
             rw [et, ← ed2, List.drop_drop]
end
section
variable {P : Program} {w : World} {K : PySem.W.Frag} {mg : Str → Option Value} {base : Heap}
def CrI (T : Txt K mg) (H : Hp) (p : Addr) : Option Sr41.Craft → Prop
 | none => ∃ x, CraftAt T H p x
 | some r => ∃ x, CraftIs T H p x r ∧ r.mode ≤ 2
def PeI (T : Txt K mg) (H : Hp) (p : Addr) : Option Sr41.Base → Prop
 | none => ∃ x, PeAt T H p x
 | some b => ∃ x, PeIs T H p x b
theorem CrI.at_ {T : Txt K mg} {H : Hp} {p : Addr} {o : Option Sr41.Craft} (h : CrI T H p o) : ∃ x, CraftAt T H p x := by
 cases o with
 | none => exact h
 | some r =>
   obtain ⟨x, h, _⟩ := h
   exact ⟨x, h.at_⟩
theorem PeI.at_ {T : Txt K mg} {H : Hp} {p : Addr} {o : Option Sr41.Base} (h : PeI T H p o) : ∃ x, PeAt T H p x := by
 cases o with
 | none => exact h
 | some r =>
   obtain ⟨x, h⟩ := h
   exact ⟨x, h.at_⟩
theorem PeI.rep {T : Txt K mg} {H : Hp} {p : Addr} {o : Option Sr41.Base} (h : PeI T H p o) : RepOk o := by
 cases o with
 | none => trivial
 | some b =>
   obtain ⟨x, h⟩ := h
   obtain ⟨l, c, d, e, _, _, e3⟩ := h.rep
   show b.report.length = 5
   rw [e3]
   rfl
theorem apart {T : Txt K mg} {H : Hp} {p q : Addr} {x : Cr} {y : Pe} (h : CraftAt T H p x) (h' : PeAt T H q y) : p ≠ q := fun e => by
 obtain ⟨dx, h⟩ := h
 obtain ⟨dy, h'⟩ := h'
 rw [e, h'] at h
 have h := Option.some.inj h
 injection h with _ _ h3
 have h4 := congrArg List.length h3
 exact absurd (show (7 : Nat) = 9 from h4) (by decide)
theorem CrI.other {T : Txt K mg} {H H' : Hp} {p q : Addr} {y : Pe} {o : Option Sr41.Craft} (h : CrI T H p o) (hy : PeAt T H q y) (s : SameX q H H') : CrI T H' p o := by
 have sS := s.sP hy
 cases o with
 | none =>
   obtain ⟨x, h⟩ := h
   have ne := apart h hy
   obtain ⟨dx, e⟩ := h
   exact ⟨x, dx, s _ _ e ne⟩
 | some r =>
   obtain ⟨x, h, hm⟩ := h
   have ne := apart h.at_ hy
   obtain ⟨dx, e⟩ := h.at_
   obtain ⟨c, f, hd', pt, bx, e1, hC⟩ := h.ch
   exact ⟨x, ⟨⟨dx, s _ _ e ne⟩, ⟨c, f, hd', pt, bx, e1, sS.chart hC⟩, h.md, h.od, h.tk, sS.ex h.ex, h.mf, sS.dr h.dr, sS.su h.su, sS.aw h.aw, h.ok⟩, hm⟩
theorem PeI.other {T : Txt K mg} {H H' : Hp} {p q : Addr} {x : Cr} {o : Option Sr41.Base} (h : PeI T H p o) (hx : CraftAt T H q x) (s : SameX q H H') : PeI T H' p o := by
 have sS := s.s hx
 cases o with
 | none =>
   obtain ⟨y, h⟩ := h
   have ne := apart hx h
   obtain ⟨dx, e⟩ := h
   exact ⟨y, dx, s _ _ e ne.symm⟩
 | some r =>
   obtain ⟨y, h⟩ := h
   have ne := apart hx h.at_
   obtain ⟨dx, e⟩ := h.at_
   obtain ⟨l, c, d, e', e1, e2, e3⟩ := h.rep
   exact ⟨y, ⟨⟨dx, s _ _ e ne.symm⟩, h.on, h.ow, h.oa, h.tk, ⟨l, c, d, e', e1, sS.lst e2, e3⟩, h.le⟩⟩
theorem CrI.mono {T : Txt K mg} {H H' : Hp} {p : Addr} {o : Option Sr41.Craft} (h : CrI T H p o) (s : Same H H') : CrI T H' p o := by
 cases o with
 | none =>
   obtain ⟨x, h⟩ := h
   exact ⟨x, h.mono s⟩
 | some r =>
   obtain ⟨x, h, hm⟩ := h
   exact ⟨x, h.mono s, hm⟩
theorem PeI.mono {T : Txt K mg} {H H' : Hp} {p : Addr} {o : Option Sr41.Base} (h : PeI T H p o) (s : Same H H') : PeI T H' p o := by
 cases o with
 | none =>
   obtain ⟨x, h⟩ := h
   exact ⟨x, h.mono s⟩
 | some r =>
   obtain ⟨x, h⟩ := h
   exact ⟨x, h.mono s⟩
theorem does_mode {r r' : Sr41.Craft} {s : Sr40.State} {w : Nat} {b : Sr40.Burn} (h : Sr41Neutral.doesF r s = some (w, b, r')) : r'.mode = r.mode := by
 unfold Sr41Neutral.doesF at h
 split at h
 · cases h
   rfl
 split at h
 · cases h
   rfl
 split at h
 · cases h
   rfl
 split at h
 · split at h
   · cases h
     rfl
   · split at h
     · cases h
       rfl
     · cases h
   · cases h
 split at h
 · split at h
   · cases h
   · cases h
     rfl
   · split at h
     · cases h
       rfl
     · cases h
 · cases h
theorem kcs_ints {K : PySem.W.Frag} {xs : List V} : ∀ {ns : List Int}, KCs K xs (ns.map CD.int) → xs = ns.map V.int
 | [], h => by
   cases h
   rfl
 | n :: r, h => by
   cases h with
   | cons h1 h2 =>
     cases h1
     rw [kcs_ints h2]
     rfl
theorem kcs_bls {K : PySem.W.Frag} {xs : List V} : ∀ {ns : List Bool}, KCs K xs (ns.map CD.bl) → xs = ns.map V.bl
 | [], h => by
   cases h
   rfl
 | n :: r, h => by
   cases h with
   | cons h1 h2 =>
     cases h1
     rw [kcs_bls h2]
     rfl
theorem nums_K (T : Txt K mg) : KTup K T.desk.NUMBERS_OF.a (NUMS.map V.int) := by
 have h := T.desk.NUMBERS_OF.k
 cases h with
 | tup h1 h2 =>
   rw [← kcs_ints (ns := NUMS) h2]
   exact h1
theorem rows_K (T : Txt K mg) : KTup K T.desk.HAS_ROW.a (ROWS.map V.bl) := by
 have h := T.desk.HAS_ROW.k
 cases h with
 | tup h1 h2 =>
   rw [← kcs_bls (ns := ROWS) h2]
   exact h1
theorem intV_at {l : List Int} {i : Nat} {z : Int} (h : l[i]? = some z) : atI (intV l) ((i : Nat) : Int) = some (V.int z) := by
 refine atI_nat ?_
 unfold intV
 rw [List.getElem?_map, h]
 rfl
theorem intV_cut {l : List Int} {a b : Nat} (h : a ≤ b) (hb : b ≤ l.length) : cutV (intV l) (some (a : Int)) (some (b : Int)) = intV ((l.drop a).take (b - a)) := by
 rw [cut_in h (by rw [intV_len]; exact hb)]
 unfold intV
 rw [← List.map_drop, ← List.map_take]
theorem sc_answer_of_craft : FnScope ["craft", "call", "numbers", "row"] ["craft", "call", "numbers", "row"] (defScope (top 100)) := fS
def sp_answer_of_craft (T : Txt K mg) : Sp := fun vs H Q _ => ∃ (cr nl rl : Addr) (c : Nat) (ns row : List Int) (o o' : Option Sr41.Craft) (ans : List Int), vs = [.ref cr, .int (c : Int), .ref nl, .ref rl] ∧ CrI T H cr o ∧ SqL K H nl (intV ns) ∧ SqL K H rl (intV row) ∧ CallC c ns row o o' ans ∧ ∀ H' q, CrI T H' cr o' → SameX cr H H' → H q = none → H' q = some (.lst (intV ans)) → Q (.ref q) H'
theorem ok_answer_of_craft (T : Txt K mg) : FnOk P w K mg base CX0 12 T.desk.answer_of_craft.a T.desk.answer_of_craft.fd ["craft", "call", "numbers", "row"] (sp_answer_of_craft T) := by
 refine T.desk.answer_of_craft.F.ok sc_answer_of_craft (fun _ _ _ _ h => by obtain ⟨cr, nl, rl, c, ns, row, o, o', ans, rfl, _⟩ := h; rfl) (fun cdv A outer s H vs Q E hr h => ?_)
 obtain ⟨cr, nl, rl, c, ns, row, o, o', ans, rfl, hI, hn, hrow, hc, k⟩ := h
 refine ⟨_, (pss_cons (ps_if (pt_cmpR op_eq (pv 1) (pe_glob rfl T.desk.CR_START.g T.desk.CR_START.r) (nomark _)) (pss_one (ps_ret (pe_meth (pv 0) T.craft.Craft.C T.craft.Craft_start.m (ok_Craft_start T) (hr.mono (by decide)) T.craft.Craft_start.b .nil pass0 (pa_cons (pv 2) (pa_cons (pv 3) pa_nil))))) pss_nil)
  (pss_cons (ps_if (pt_cmpR op_eq (pv 1) (pe_glob rfl T.desk.CR_TICK.g T.desk.CR_TICK.r) (nomark _)) (pss_one (ps_ret (pe_meth (pv 0) T.craft.Craft.C T.craft.Craft_tick.m (ok_Craft_tick T) (hr.mono (by decide)) T.craft.Craft_tick.b .nil pass0 (pa_cons (pe_callTy (tupK K) rfl T.n_tuple boot_tuple (pa_cons (pv 2) pa_nil)) pa_nil)))) pss_nil)
  (pss_cons (ps_if (pt_cmpR op_eq (pv 1) (pe_glob rfl T.desk.CR_HEARD.g T.desk.CR_HEARD.r) (nomark _)) (pss_one (ps_ret (pe_meth (pv 0) T.craft.Craft.C T.craft.Craft_heard.m (ok_Craft_heard T) (hr.mono (by decide)) T.craft.Craft_heard.b .nil pass0 (pa_cons (pv 3) pa_nil)))) pss_nil)
  (pss_one (ps_ret (pe_meth0 (pv 0) T.craft.Craft.C T.craft.Craft_told_state.m (ok_Craft_told_state T) (hr.mono (by decide)) T.craft.Craft_told_state.b .nil pass0)))))), ?_⟩
 try dsimp only [cxOf]
 cases hc with
 | startG h4 h36 hg =>
   obtain ⟨x, hx⟩ := hI.at_
   walk_at "go"
   refine ite2 (fun _ => ?_) (fun z => absurd (decide_eq_true rfl) z)
   walk_at "go"
   refine CraftAt.meth hx rfl ?_
   walk_at "go"
   exact ⟨cr, nl, rl, x, _, _, _, _, _, _, _, row, rfl, hx, hn, hrow, h4, h36, fun _ H' l x' h1 h2 h3 h5 => k H' l ⟨x', h1, Nat.zero_le _⟩ h2 h3 h5, fun z => by rw [hg] at z; cases z⟩
 | startN h4 h36 hg =>
   obtain ⟨x, hx⟩ := hI.at_
   walk_at "go"
   refine ite2 (fun _ => ?_) (fun z => absurd (decide_eq_true rfl) z)
   walk_at "go"
   refine CraftAt.meth hx rfl ?_
   walk_at "go"
   exact ⟨cr, nl, rl, x, _, _, _, _, _, _, _, row, rfl, hx, hn, hrow, h4, h36, fun z => (by rw [hg] at z; cases z), fun _ H' l h1 h2 h3 => k H' l (hI.mono h1) (SPx.Same.x h1) h2 h3⟩
 | @tick a1 b1 c1 d1 _ r r' wh bn hd =>
   obtain ⟨x, hX, hm⟩ := hI
   walk_at "go"
   refine ite2 (fun z => absurd (of_decide_eq_true z) (by decide)) (fun _ => ?_)
   walk_at "go"
   refine ite2 (fun _ => ?_) (fun z => absurd (decide_eq_true rfl) z)
   walk_at "go"
   refine CraftAt.meth hX.at_ rfl ?_
   walk_at "go"
   intro t ht
   refine ⟨cr, t, x, r, ⟨a1, b1, c1, d1⟩, rfl, hX.mono (Same.new ht), SqT.of upd_same, hm, fun H' l x' w' b' r'' e1 e2 e3 e4 e5 => ?_⟩
   rw [hd] at e1
   cases e1
   exact k H' l ⟨x', e2, by rw [← does_mode hd] at hm; exact hm⟩ ((SPx.Same.x (Same.new ht)).trans e3) ((Same.new ht).free e4) e5
 | heard hr' =>
   obtain ⟨x, hX, hm⟩ := hI
   rw [hr'] at hrow
   walk_at "go"
   refine ite2 (fun z => absurd (of_decide_eq_true z) (by decide)) (fun _ => ?_)
   walk_at "go"
   refine ite2 (fun z => absurd (of_decide_eq_true z) (by decide)) (fun _ => ?_)
   walk_at "go"
   refine ite2 (fun _ => ?_) (fun z => absurd (decide_eq_true rfl) z)
   walk_at "go"
   refine CraftAt.meth hX.at_ rfl ?_
   walk_at "go"
   exact ⟨cr, rl, x, _, _, rfl, hX, hrow, hm, fun H' q x' e1 e2 e3 e4 e5 => k H' q ⟨x', e1, e2⟩ e3 e4 e5⟩
 | state =>
   obtain ⟨x, hX, hm⟩ := id hI
   walk_at "go"
   refine ite2 (fun z => absurd (of_decide_eq_true z) (by decide)) (fun _ => ?_)
   walk_at "go"
   refine ite2 (fun z => absurd (of_decide_eq_true z) (by decide)) (fun _ => ?_)
   walk_at "go"
   refine ite2 (fun z => absurd (of_decide_eq_true z) (by decide)) (fun _ => ?_)
   walk_at "go"
   refine CraftAt.meth hX.at_ rfl ?_
   walk_at "go"
   refine ⟨cr, x, rfl, hX.at_, fun l H' s1 hl e => ?_⟩
   rw [hX.md, hX.mf, hX.od, hX.tk] at e
   exact k H' l (hI.mono s1) (SPx.Same.x s1) hl e
theorem sc_answer_of_people : FnScope ["people", "call", "numbers", "row"] ["people", "call", "numbers", "row"] (defScope (top 101)) := fS
def sp_answer_of_people (T : Txt K mg) : Sp := fun vs H Q _ => ∃ (pe nl rl : Addr) (c : Nat) (ns row : List Int) (o o' : Option Sr41.Base) (ans : List Int), vs = [.ref pe, .int (c : Int), .ref nl, .ref rl] ∧ PeI T H pe o ∧ SqL K H nl (intV ns) ∧ SqL K H rl (intV row) ∧ CallP c ns row o o' ans ∧ ∀ H' q, PeI T H' pe o' → SameX pe H H' → H q = none → H' q = some (.lst (intV ans)) → Q (.ref q) H'
theorem ok_answer_of_people (T : Txt K mg) : FnOk P w K mg base CX0 12 T.desk.answer_of_people.a T.desk.answer_of_people.fd ["people", "call", "numbers", "row"] (sp_answer_of_people T) := by
 refine T.desk.answer_of_people.F.ok sc_answer_of_people (fun _ _ _ _ h => by obtain ⟨pe, nl, rl, c, ns, row, o, o', ans, rfl, _⟩ := h; rfl) (fun cdv A outer s H vs Q E hr h => ?_)
 obtain ⟨pe, nl, rl, c, ns, row, o, o', ans, rfl, hI, hn, hrow, hc, k⟩ := h
 refine ⟨_, (pss_cons (ps_if (pt_cmpR op_eq (pv 1) (pe_glob rfl T.desk.PE_START.g T.desk.PE_START.r) (nomark _)) (pss_one (ps_ret (pe_meth0 (pv 0) T.people.PeoplesEnd.C T.people.PeoplesEnd_start.m (ok_PeoplesEnd_start T) (hr.mono (by decide)) T.people.PeoplesEnd_start.b .nil pass0))) pss_nil)
  (pss_cons (ps_if (pt_cmpR op_eq (pv 1) (pe_glob rfl T.desk.PE_ORDER.g T.desk.PE_ORDER.r) (nomark _)) (pss_one (ps_ret (pe_meth (pv 0) T.people.PeoplesEnd.C T.people.PeoplesEnd_order.m (ok_PeoplesEnd_order T) (hr.mono (by decide)) T.people.PeoplesEnd_order.b .nil pass0 (pa_cons (xL K (pv 2) pe_int) pa_nil)))) pss_nil)
  (pss_cons (ps_if (pt_cmpR op_eq (pv 1) (pe_glob rfl T.desk.PE_HEARD.g T.desk.PE_HEARD.r) (nomark _)) (pss_one (ps_ret (pe_meth (pv 0) T.people.PeoplesEnd.C T.people.PeoplesEnd_heard.m (ok_PeoplesEnd_heard T) (hr.mono (by decide)) T.people.PeoplesEnd_heard.b .nil pass0 (pa_cons (pv 3) pa_nil)))) pss_nil)
  (pss_cons (ps_if (pt_cmpR op_eq (pv 1) (pe_glob rfl T.desk.PE_TICK.g T.desk.PE_TICK.r) (nomark _)) (pss_one (ps_ret (pe_meth0 (pv 0) T.people.PeoplesEnd.C T.people.PeoplesEnd_tick.m (ok_PeoplesEnd_tick T) (hr.mono (by decide)) T.people.PeoplesEnd_tick.b .nil pass0))) pss_nil)
  (pss_one (ps_ret (pe_meth0 (pv 0) T.people.PeoplesEnd.C T.people.PeoplesEnd_told_state.m (ok_PeoplesEnd_told_state T) (hr.mono (by decide)) T.people.PeoplesEnd_told_state.b .nil pass0))))))), ?_⟩
 try dsimp only [cxOf]
 cases hc with
 | start =>
   obtain ⟨x, hx⟩ := hI.at_
   walk_at "go"
   refine ite2 (fun _ => ?_) (fun z => absurd (decide_eq_true rfl) z)
   walk_at "go"
   refine PeAt.meth hx rfl ?_
   walk_at "go"
   exact ⟨pe, x, rfl, hx, fun H' l x' e1 e2 e3 e4 => k H' l ⟨x', e1⟩ e2 e3 e4⟩
 | order =>
   obtain ⟨x, hX⟩ := hI
   walk_at "go"
   refine ite2 (fun z => absurd (of_decide_eq_true z) (by decide)) (fun _ => ?_)
   walk_at "go"
   refine ite2 (fun _ => ?_) (fun z => absurd (decide_eq_true rfl) z)
   walk_at "go"
   refine PeAt.meth hX.at_ rfl ?_
   walk_at "go"
   exact ⟨pe, x, _, _, rfl, hX, fun H' l x' e1 e2 e3 e4 => k H' l ⟨x', e1⟩ e2 e3 e4⟩
 | heard hr' =>
   obtain ⟨x, hX⟩ := hI
   rw [hr'] at hrow
   walk_at "go"
   refine ite2 (fun z => absurd (of_decide_eq_true z) (by decide)) (fun _ => ?_)
   walk_at "go"
   refine ite2 (fun z => absurd (of_decide_eq_true z) (by decide)) (fun _ => ?_)
   walk_at "go"
   refine ite2 (fun _ => ?_) (fun z => absurd (decide_eq_true rfl) z)
   walk_at "go"
   refine PeAt.meth hX.at_ rfl ?_
   walk_at "go"
   exact ⟨pe, rl, x, _, _, rfl, hX, hrow, fun H' q x' e1 e3 e4 e5 => k H' q ⟨x', e1⟩ e3 e4 e5⟩
 | tick =>
   obtain ⟨x, hX⟩ := hI
   walk_at "go"
   refine ite2 (fun z => absurd (of_decide_eq_true z) (by decide)) (fun _ => ?_)
   walk_at "go"
   refine ite2 (fun z => absurd (of_decide_eq_true z) (by decide)) (fun _ => ?_)
   walk_at "go"
   refine ite2 (fun z => absurd (of_decide_eq_true z) (by decide)) (fun _ => ?_)
   walk_at "go"
   refine ite2 (fun _ => ?_) (fun z => absurd (decide_eq_true rfl) z)
   walk_at "go"
   refine PeAt.meth hX.at_ rfl ?_
   walk_at "go"
   exact ⟨pe, x, _, rfl, hX, fun H' l x' e1 e2 e3 e4 => k H' l ⟨x', e1⟩ e2 e3 e4⟩
 | state =>
   obtain ⟨x, hX⟩ := id hI
   walk_at "go"
   refine ite2 (fun z => absurd (of_decide_eq_true z) (by decide)) (fun _ => ?_)
   walk_at "go"
   refine ite2 (fun z => absurd (of_decide_eq_true z) (by decide)) (fun _ => ?_)
   walk_at "go"
   refine ite2 (fun z => absurd (of_decide_eq_true z) (by decide)) (fun _ => ?_)
   walk_at "go"
   refine ite2 (fun z => absurd (of_decide_eq_true z) (by decide)) (fun _ => ?_)
   walk_at "go"
   refine PeAt.meth hX.at_ rfl ?_
   walk_at "go"
   exact ⟨pe, x, _, rfl, hX, fun H' l e1 e2 e3 => k H' l (hI.mono e1) (SPx.Same.x e1) e2 e3⟩
theorem callC_lt {c : Nat} {ns row : List Int} {o o' : Option Sr41.Craft} {ans : List Int} (h : CallC c ns row o o' ans) : c < 4 := by
 cases h <;> decide
theorem callP_ge {c : Nat} {ns row : List Int} {o o' : Option Sr41.Base} {ans : List Int} (h : CallP c ns row o o' ans) : 4 ≤ c := by
 cases h <;> decide
theorem sc_answer_call : FnScope ["craft", "people", "call", "numbers", "row"] ["craft", "people", "call", "numbers", "row"] (defScope (top 99)) := fS
def sp_answer_call (T : Txt K mg) : Sp := fun vs H Q _ => ∃ (cr pe nl rl : Addr) (c : Nat) (ns row : List Int) (S S' : Sr41Neutral.S) (ans : List Int), vs = [.ref cr, .ref pe, .int (c : Int), .ref nl, .ref rl] ∧ CrI T H cr S.1 ∧ PeI T H pe S.2 ∧ SqL K H nl (intV ns) ∧ SqL K H rl (intV row) ∧ CallR2 c ns row S S' ans ∧ ∀ H' q, CrI T H' cr S'.1 → PeI T H' pe S'.2 → SameS H H' → H q = none → H' q = some (.lst (intV ans)) → ans.length ≤ 20 → Q (.ref q) H'
theorem ok_answer_call (T : Txt K mg) : FnOk P w K mg base CX0 13 T.desk.answer_call.a T.desk.answer_call.fd ["craft", "people", "call", "numbers", "row"] (sp_answer_call T) := by
 refine T.desk.answer_call.F.ok sc_answer_call (fun _ _ _ _ h => by obtain ⟨cr, pe, nl, rl, c, ns, row, S, S', ans, rfl, _⟩ := h; rfl) (fun cdv A outer s H vs Q E hr h => ?_)
 obtain ⟨cr, pe, nl, rl, c, ns, row, S, S', ans, rfl, hI, hP, hn, hrow, hc, k⟩ := h
 refine ⟨_, (pss_cons (ps_if (pt_cmpR op_lt (pv 2) (pe_glob rfl T.desk.PE_START.g T.desk.PE_START.r) (nomark _)) (pss_one (ps_ret (cG T.desk.answer_of_craft (ok_answer_of_craft T) hr (pa_cons (pv 0) (pa_cons (pv 2) (pa_cons (pv 3) (pa_cons (pv 4) pa_nil))))))) pss_nil)
  (pss_one (ps_ret (cG T.desk.answer_of_people (ok_answer_of_people T) hr (pa_cons (pv 1) (pa_cons (pv 2) (pa_cons (pv 3) (pa_cons (pv 4) pa_nil)))))))), ?_⟩
 try dsimp only [cxOf]
 obtain ⟨x, hx⟩ := hI.at_
 obtain ⟨y, hy⟩ := hP.at_
 rcases hc with ⟨hc, e⟩ | ⟨hc, e⟩
 · have h4 := callC_lt hc
   walk_at "go"
   refine ite2 (fun _ => ?_) (fun z => absurd (decide_eq_true (by omega)) z)
   walk_at "go"
   exact ⟨cr, nl, rl, c, ns, row, _, _, ans, rfl, hI, hn, hrow, hc, fun H' q e1 e2 e3 e4 => k H' q e1 (by rw [e]; exact hP.other hx e2) (e2.s hx) e3 e4 (call_lenC hc)⟩
 · have h4 := callP_ge hc
   walk_at "go"
   refine ite2 (fun z => absurd (of_decide_eq_true z) (by omega)) (fun _ => ?_)
   walk_at "go"
   exact ⟨pe, nl, rl, c, ns, row, _, _, ans, rfl, hP, hn, hrow, hc, fun H' q e1 e2 e3 e4 => k H' q (by rw [e]; exact hI.other hy e2) e1 (e2.sP hy) e3 e4 (call_lenP hP.rep hc)⟩
end
section
variable {P : Program} {w : World} {K : PySem.W.Frag} {mg : Str → Option Value} {base : Heap}
theorem okF_answer_call (T : Txt K mg) : FnOk P w K mg base CX0 13 T.desk.answer_call.a T.desk.answer_call.fd ["craft", "people", "call", "numbers", "row"] (spF (sp_answer_call T)) := (ok_answer_call T).frame
def WL (T : Txt K mg) (a cr pe gl : Addr) (l : List Int) (m : Nat) (σ : L2.St) (H : Hp) : Prop := ∃ (pos : Nat) (S : Sr41Neutral.S) (cs : List (List (List Int))) (out : List Int) (x5 x6 x7 x8 x9 : Option V), σ = [some (.ref a), some (.ref cr), some (.ref pe), some (.ref gl), some (.int (pos : Int)), x5, x6, x7, x8, x9] ∧ m = l.length - pos ∧ Rest l pos S cs out ∧ SqL K (del H gl) a (intV l) ∧ CrI T (del H gl) cr S.1 ∧ PeI T (del H gl) pe S.2 ∧ H gl = some (.lst (intV out))
theorem w_spF {sp : Sp} {vs : List V} {H : Hp} {Q : VK} {E : XK} {g : Addr} {xs : List V} (h : H g = some (.lst xs)) (q : sp vs (del H g) (fun v H' => H' g = none → Q v (upd H' g (.lst xs))) E) : spF sp vs H Q E := ⟨g, xs, h, q⟩
theorem sc_answers : FnScope ["calls", "craft", "people", "given", "at", "call", "row_at", "numbers", "row", "answer"] ["calls"] (defScope (top 98)) := fS
def sp_answers (K : PySem.W.Frag) : Sp := fun vs H Q _ => ∃ (a : Addr) (l : List Int), vs = [.ref a] ∧ SqL K H a (intV l) ∧ PySr41.answers_asked l = true ∧ ∀ H' p, H' p = some (.lst (intV (PySr41.answers l))) → Q (.ref p) H'
theorem ok_answers (T : Txt K mg) : FnOk P w K mg base CX0 14 T.desk.answers.a T.desk.answers.fd ["calls"] (sp_answers K) := by
 refine T.desk.answers.F.ok sc_answers (fun _ _ _ _ h => by obtain ⟨a, l, rfl, _⟩ := h; rfl) (fun cdv A outer s H vs Q E hr h => ?_)
 obtain ⟨a, l, rfl, ha, hask, k⟩ := h
 refine ⟨_, (pss_cons (sA 1 sc_answers.nd (pe_make0 T.craft.Craft_init.M (ok_Craft_init T) (hr.mono (by decide)) rfl T.craft.Craft.c T.craft.Craft_init.b .nil pass0))
  (pss_cons (sA 2 sc_answers.nd (pe_make0 T.people.PeoplesEnd_init.M (ok_PeoplesEnd_init T) (hr.mono (by decide)) rfl T.people.PeoplesEnd.c T.people.PeoplesEnd_init.b .nil pass0))
  (pss_cons (sA 3 sc_answers.nd (pe_lst pa_nil))
  (pss_cons (sA 4 sc_answers.nd pe_int)
  (pss_cons (ps_while PassesOwn.never (pt_cmpR op_lt (pv 4) (pe_callB (lenK K) rfl T.n_len boot_len (pa_cons (pv 0) pa_nil)) (nomark _)) (pss_cons (sA 5 sc_answers.nd (xL K (pv 0) (pv 4)))
  (pss_cons (sA 6 sc_answers.nd (pe_op op_add (pe_op op_add (pv 4) pe_int) (xT K (pe_glob rfl T.desk.NUMBERS_OF.g T.desk.NUMBERS_OF.r) (pv 5))))
  (pss_cons (sA 7 sc_answers.nd (pe_slice (slK K) (pv 0) (po_some (pe_op op_add (pv 4) pe_int)) (po_some (pv 6))))
  (pss_cons (sA 8 sc_answers.nd (pe_lst pa_nil))
  (pss_cons (sA 4 sc_answers.nd (pv 6))
  (pss_cons (ps_if (pt_val (xT K (pe_glob rfl T.desk.HAS_ROW.g T.desk.HAS_ROW.r) (pv 5))) (pss_cons (sA 4 sc_answers.nd (pe_op op_add (pe_op op_add (pv 6) pe_int) (xL K (pv 0) (pv 6))))
  (pss_one (sA 8 sc_answers.nd (pe_slice (slK K) (pv 0) (po_some (pe_op op_add (pv 6) pe_int)) (po_some (pv 4)))))) pss_nil)
  (pss_cons (sA 9 sc_answers.nd (cG T.desk.answer_call (okF_answer_call T) hr (pa_cons (pv 1) (pa_cons (pv 2) (pa_cons (pv 5) (pa_cons (pv 7) (pa_cons (pv 8) pa_nil)))))))
  (pss_cons (ps_expr (appK K (pe_bm PySem.F.plainAttrs_list PySem.F.slot_list_append PySem.F.type_list_append mt_append (pv 3) (pa_cons (pe_callB (lenK K) rfl T.n_len boot_len (pa_cons (pv 9) pa_nil)) pa_nil))))
  (pss_one (ps_expr (appK K (pe_bm PySem.F.plainAttrs_list PySem.F.slot_list_extend PySem.F.type_list_extend mt_extend (pv 3) (pa_cons (pv 9) pa_nil))))))))))))))
  (pss_one (ps_ret (pv 3)))))))), ?_⟩
 try dsimp only [cxOf]
 obtain ⟨cs0, R0⟩ := rest_start hask
 walk_at "go"
 intro cr cx ncr ncx ne1
 refine ⟨cr, cx, rfl, upd_same, fun H1 hx1 keep1 => ⟨rfl, ?_⟩⟩
 have s1 : Same H H1 := Same.made ncr ncx keep1
 walk_at "go"
 intro pe px npe npx ne2
 refine ⟨pe, px, rfl, upd_same, fun H2 y2 hy2 keep2 => ⟨rfl, ?_⟩⟩
 have s2 : Same H1 H2 := Same.made npe npx keep2
 walk_at "go"
 refine w_small (by show 0 ≤ 1000; decide) fun gl hgl => ?_
 walk_at "go"
 refine w_while (WL T a cr pe gl l) (m0 := l.length) ⟨0, _, cs0, [], _, _, _, _, _, rfl, rfl, R0, ?_, ?_, ?_, upd_same⟩ ?_
 · rw [del_upd hgl]
   exact (s1.trans s2).seq ha
 · rw [del_upd hgl]
   exact ⟨_, hx1.mono s2⟩
 · rw [del_upd hgl]
   exact ⟨y2, hy2.at_⟩
 clear ha s1 s2 hx1 hy2 keep1 keep2 ncr ncx ne1 npe npx ne2 hgl
 rintro m σ' H ⟨pos, S, cs, out, x5, x6, x7, x8, x9, rfl, hm, R, ha, hI, hP, hg⟩
 have haH : SqL K H a (intV l) := del_le.seq ha
 walk_at "go"
 rw [intV_len]
 refine ite2 (fun q0 => ?_) (fun q0 => ?_)
 · have q0 : pos < l.length := by
     have := of_decide_eq_true q0
     omega
   obtain ⟨cn, n, S', ans, row, cs', e1, e2, e3, hC, hrest⟩ := rest_next R q0
   refine ⟨fun σ' H' => ∃ m', m' < m ∧ WL T a cr pe gl l m' σ' H', fun σ' H' h => h, ?_⟩
   walk_at "go"
   refine w_ixL haH (intV_at e1) ?_
   walk_at "go"
   refine w_ixT ((nums_K T).sq _) (atI_nat (by rw [List.getElem?_map, e2]; rfl)) ?_
   walk_at "go"
   refine w_slL haH fun nl hnl => ?_
   rw [show cutV (intV l) (some ((pos : Int) + 1)) (some ((pos : Int) + 1 + (n : Int))) = intV ((l.drop (pos + 1)).take (pos + 1 + n - (pos + 1))) from intV_cut (a := pos + 1) (b := pos + 1 + n) (by omega) e3, show pos + 1 + n - (pos + 1) = n by omega]
   have t1 : Same H (upd H nl (.lst (intV ((l.drop (pos + 1)).take n)))) := Same.new hnl
   have hn1 : (upd H nl (.lst (intV ((l.drop (pos + 1)).take n)))) nl = some (.lst (intV ((l.drop (pos + 1)).take n))) := upd_same
   generalize upd H nl (.lst (intV ((l.drop (pos + 1)).take n))) = H1 at t1 hn1 ⊢
   have nlg : nl ≠ gl := fun e => by
     rw [e, hg] at hnl
     cases hnl
   walk_at "go"
   refine w_small (by show 0 ≤ 1000; decide) fun r0 hr0 => ?_
   have t2 : Same H1 (upd H1 r0 (.lst [])) := Same.new hr0
   have hr1 : (upd H1 r0 (.lst [])) r0 = some (.lst (intV [])) := upd_same
   have r0g : r0 ≠ gl := fun e => by
     rw [e, t1 _ _ hg] at hr0
     cases hr0
   generalize upd H1 r0 (.lst []) = H2 at t2 hr1 ⊢
   have t12 := t1.trans t2
   walk_at "go"
   rcases hrest with ⟨e4, e5, hR'⟩ | ⟨e4, kk, e5, e6, e7, hR'⟩
   · subst e5
     refine w_ixT ((rows_K T).sq _) (atI_nat (by rw [List.getElem?_map, e4]; rfl)) ?_
     walk_at "go"
     have hg2 := t12 _ _ hg
     walk_at "go"
     refine w_spF hg2 ?_
     have d2 := Same.del (g := gl) t12
     refine ⟨cr, pe, nl, r0, cn, _, _, S, S', ans, rfl, hI.mono d2, hP.mono d2, SqL.of (by rw [del_ne nlg]; exact t2 _ _ hn1), SqL.of (by rw [del_ne r0g]; exact hr1), hC, fun H3 q hI3 hP3 s3 hq hq3 h20 hg0 => ?_⟩
     have hne : q ≠ gl := ne_of_none hq3 hg0
     have hqL : SqL K (upd H3 gl (.lst (intV out))) q (intV ans) := SqL.of (by rw [upd_ne hne]; exact hq3)
     have R' := hR' h20
     have hfew := R.few
     walk_at "go"
     refine w_bm ?_
     walk_at "go"
     refine ⟨.inl ⟨rfl, _, SqL.of upd_same⟩, ?_⟩
     walk_at "go"
     refine w_appendB upd_same (by rw [intV_len]; omega) ?_
     rw [upd_upd]
     walk_at "go"
     refine w_bm ?_
     walk_at "go"
     refine ⟨.inl ⟨rfl, _, SqL.of upd_same⟩, ?_⟩
     walk_at "go"
     refine w_extend upd_same (by rw [upd_ne hne]; exact hq3) (by rw [List.length_append, intV_len, intV_len]; show out.length + 1 + ans.length ≤ 100000; omega) ?_
     rw [upd_upd]
     refine ⟨l.length - (pos + 1 + n), by omega, pos + 1 + n, S', cs', out ++ ((ans.length : Int) :: ans), _, _, _, _, _, rfl, rfl, R', ?_, ?_, ?_, ?_⟩
     · rw [del_upd hg0]
       exact s3.seq (d2.seq ha)
     · rw [del_upd hg0]
       exact hI3
     · rw [del_upd hg0]
       exact hP3
     · rw [upd_same, intV_app, intV_len, List.append_assoc]
       rfl
   · refine w_ixT ((rows_K T).sq _) (atI_nat (by rw [List.getElem?_map, e4]; rfl)) ?_
     have haH2 := t12.seq haH
     walk_at "go"
     refine w_ixL haH2 (intV_at (i := pos + 1 + n) e5) ?_
     walk_at "go"
     refine w_slL haH2 fun rl hrl => ?_
     rw [show cutV (intV l) (some ((pos : Int) + 1 + (n : Int) + 1)) (some ((pos : Int) + 1 + (n : Int) + 1 + (kk : Int))) = intV ((l.drop (pos + 1 + n + 1)).take (pos + 1 + n + 1 + kk - (pos + 1 + n + 1))) from intV_cut (a := pos + 1 + n + 1) (b := pos + 1 + n + 1 + kk) (by omega) e6, show pos + 1 + n + 1 + kk - (pos + 1 + n + 1) = kk by omega, ← e7]
     have t3 : Same H2 (upd H2 rl (.lst (intV row))) := Same.new hrl
     have hrr : (upd H2 rl (.lst (intV row))) rl = some (.lst (intV row)) := upd_same
     have rlg : rl ≠ gl := fun e => by
       rw [e, t12 _ _ hg] at hrl
       cases hrl
     generalize upd H2 rl (.lst (intV row)) = H3' at t3 hrr ⊢
     have t123 := t12.trans t3
     walk_at "go"
     have hg2 := t123 _ _ hg
     walk_at "go"
     refine w_spF hg2 ?_
     have d2 := Same.del (g := gl) t123
     refine ⟨cr, pe, nl, rl, cn, _, _, S, S', ans, rfl, hI.mono d2, hP.mono d2, SqL.of (by rw [del_ne nlg]; exact t3 _ _ (t2 _ _ hn1)), SqL.of (by rw [del_ne rlg]; exact hrr), hC, fun H3 q hI3 hP3 s3 hq hq3 h20 hg0 => ?_⟩
     have hne : q ≠ gl := ne_of_none hq3 hg0
     have hqL : SqL K (upd H3 gl (.lst (intV out))) q (intV ans) := SqL.of (by rw [upd_ne hne]; exact hq3)
     have R' := hR' h20
     have hfew := R.few
     walk_at "go"
     refine w_bm ?_
     walk_at "go"
     refine ⟨.inl ⟨rfl, _, SqL.of upd_same⟩, ?_⟩
     walk_at "go"
     refine w_appendB upd_same (by rw [intV_len]; omega) ?_
     rw [upd_upd]
     walk_at "go"
     refine w_bm ?_
     walk_at "go"
     refine ⟨.inl ⟨rfl, _, SqL.of upd_same⟩, ?_⟩
     walk_at "go"
     refine w_extend upd_same (by rw [upd_ne hne]; exact hq3) (by rw [List.length_append, intV_len, intV_len]; show out.length + 1 + ans.length ≤ 100000; omega) ?_
     rw [upd_upd]
     refine ⟨l.length - (pos + 1 + n + 1 + kk), by omega, pos + 1 + n + 1 + kk, S', cs', out ++ ((ans.length : Int) :: ans), _, _, _, _, _, rfl, rfl, R', ?_, ?_, ?_, ?_⟩
     · rw [del_upd hg0]
       exact s3.seq (d2.seq ha)
     · rw [del_upd hg0]
       exact hI3
     · rw [del_upd hg0]
       exact hP3
     · rw [upd_same, intV_app, intV_len, List.append_assoc]
       rfl
 · have q0 : ¬ pos < l.length := fun h => q0 (decide_eq_true (by omega))
   walk_at "go"
   exact k H gl (by rw [rest_end R q0]; exact hg)
theorem fin_mk {fa : Addr} (T : Txt K mg) (hfa : mg "answers" = some (.ref fa)) : ∃ fd : FuncData, (∀ (s : Shared) (us : List Value), us.length = (["calls"] : List Str).length → BindsTo s fd ⟨us, []⟩ ((["calls"] : List Str).zip us)) ∧ ∀ base : Heap, K.In base → base.Ns mainGlobals mg → FnOk P w K mg base CX0 14 fa fd ["calls"] (sp_answers K) := by
 have e : fa = T.desk.answers.a := by
   have z := hfa.symm.trans T.desk.answers.m
   injection z with z
   injection z
 subst e
 refine ⟨T.desk.answers.fd, fun s us hu => ?_, fun base _ _ => ok_answers T⟩
 obtain ⟨oc, od, kV, doc, pm, an, cdv, ct, osl, e, lk, hcd⟩ := T.desk.answers.F.ex
 rw [e]
 exact match us, hu with | [_], _ => .of_eq rfl
end
end SPx
open PySem PySem.W PyProof.Rows
set_option maxHeartbeats 0 in
theorem PySem.Challenge.cw_softport_s01_answers_holds : PySem.Challenge.rw_softport_s01_answers.Holds := by
 refine SPx.topHolds ?_
 refine L2.walk_specK (r := PySem.Challenge.rw_softport_s01_answers) (k := 14) (CX := L2.CX0) (ps := ["calls"]) (sp := SPx.sp_answers) SPx.wsaid rfl rfl ⟨rfl, by decide, by decide⟩ (fun w h Y => PySem.W.kIn_of Y) ?F ?S (fun _ _ _ _ z => z)
 case F =>
   intro w mg fa h Y KX G hmg
   obtain ⟨T⟩ := SPx.topTxt w mg h KX G
   exact SPx.fin_mk T hmg
 case S =>
   intro K H xs a hO hwi hask hx
   cases hx with
   | cons h1 h2 =>
     cases h2
     cases h1 with
     | lst hs ha =>
       have e := L2.ints_dw a.1 _ ha
       subst e
       exact ⟨_, a.1, rfl, hs, hask, fun H' p hp => .lst (L2.SqL.of hp) (L2.dw_ints _)⟩
#print axioms PySem.Challenge.cw_softport_s01_answers_holds
