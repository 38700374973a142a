import PyProof.Rows.All
import Wide.All
import OpenK.AllK
import Wide.FinOn
import HandS.ForMost
import HandS.ForExc
import HandS.ExcCtx
import HandS.HotCalls
import HandS.ExcIs
import HandS.IsInst
import HandS.Lambda
import HandS.EndTab
import HandS.TupAny
import HandS.Conv
import HandS.Wide
import HandS.Small
import HandS.Style
import KE.GoesEnum
import KE.KDictPairs
import HandS.ExcInit
import KE.KExcSuper
import KE.KSuper
import HandS.ExcOwn
import HandS.CallLocal
import HandS.Codes
import HandS.NoneIn
import HandS.Star
import HandS.ExcField
import HandS.FStr
import HandS.More
import KE.KExcIs
import HandS.HeadHook4
import HandS.HeadWalk
import HandS.Head0
import HandS.Head1
import HandS.Head2
import PySem.Challenge.RW_stillcopy_k16_readings_judged
set_option Elab.async false
set_option linter.all false
set_option maxRecDepth 100000
/-! ### 1. Heaps: what stays behind a deed -/
namespace K5
open PySem PySem.Spec PyProof.Rows L2
/-- objects that deeds may change -/
def Mu : HO → Prop
  | .lst _ => True
  | .dK _ => True
  | .ins _ _ _ => True
  | _ => False
/-- all stays but what may change and lies in F -/
def Kp (F : Addr → Prop) (H G : Hp) : Prop := ∀ b o, H b = some o → (Mu o → ¬ F b) → G b = some o
/-- the same, code tables aside -/
def Kt (F : Addr → Prop) (H G : Hp) : Prop := ∀ b o, H b = some o → (∀ ps, o ≠ .tbl ps) → (Mu o → ¬ F b) → G b = some o
def No : Addr → Prop := fun _ => False
theorem Kp.t {F : Addr → Prop} {H G : Hp} (k : Kp F H G) : Kt F H G := fun b o e _ n => k b o e n
theorem Kp.refl (F : Addr → Prop) (H : Hp) : Kp F H H := fun _ _ e _ => e
theorem Kt.refl (F : Addr → Prop) (H : Hp) : Kt F H H := fun _ _ e _ _ => e
theorem Kp.sub {F F' : Addr → Prop} {H G : Hp} (k : Kp F H G) (s : ∀ b, F b → F' b) : Kp F' H G := fun b o e n => k b o e fun m z => n m (s b z)
theorem Kt.sub {F F' : Addr → Prop} {H G : Hp} (k : Kt F H G) (s : ∀ b, F b → F' b) : Kt F' H G := fun b o e t n => k b o e t fun m z => n m (s b z)
/-- one deed behind another; the second may also change what is new -/
theorem Kp.trans {F F' : Addr → Prop} {H G I : Hp} (k : Kp F H G) (l : Kp F' G I) (s : ∀ b, F' b → F b ∨ H b = none) : Kp F H I := fun b o e n =>
  l b o (k b o e n) fun m z => (s b z).elim (n m) fun q => by rw [q] at e; cases e
theorem Kt.trans {F F' : Addr → Prop} {H G I : Hp} (k : Kt F H G) (l : Kt F' G I) (s : ∀ b, F' b → F b ∨ H b = none) : Kt F H I := fun b o e t n =>
  l b o (k b o e t n) t fun m z => (s b z).elim (n m) fun q => by rw [q] at e; cases e
theorem Kp.new {F : Addr → Prop} {H : Hp} {a : Addr} {o : HO} (h : H a = none) : Kp F H (upd H a o) := fun b u e _ => by rw [upd_ne (ne_of_none e h)]; exact e
theorem Kp.upd {F : Addr → Prop} {H : Hp} {a : Addr} {o o' : HO} (h : H a = some o) (m : Mu o) (f : F a) : Kp F H (upd H a o') := fun b u e n => by
  have ne : b ≠ a := fun z => by
    subst z
    rw [h] at e
    cases e
    exact n m f
  rw [upd_ne ne]
  exact e
theorem Kp.updI {F : Addr → Prop} {H : Hp} {a C dx : Addr} {fs : List (Str × V)} {o' : HO} (h : H a = some (.ins C dx fs)) (f : F a) : Kp F H (L2.upd H a o') := Kp.upd h trivial f
theorem Kp.updL {F : Addr → Prop} {H : Hp} {a : Addr} {xs : List V} {o' : HO} (h : H a = some (.lst xs)) (f : F a) : Kp F H (L2.upd H a o') := Kp.upd h trivial f
theorem Kp.updD {F : Addr → Prop} {H : Hp} {a : Addr} {xs : List (Key × V)} {o' : HO} (h : H a = some (.dK xs)) (f : F a) : Kp F H (L2.upd H a o') := Kp.upd h trivial f
/-- one step more -/
theorem Kp.andI {F : Addr → Prop} {H G : Hp} {a C dx : Addr} {fs : List (Str × V)} {o' : HO} (k : Kp F H G) (h : G a = some (.ins C dx fs)) (f : F a) : Kp F H (L2.upd G a o') := k.trans (Kp.updI h f) fun _ z => .inl z
theorem Kp.andL {F : Addr → Prop} {H G : Hp} {a : Addr} {xs : List V} {o' : HO} (k : Kp F H G) (h : G a = some (.lst xs)) (f : F a) : Kp F H (L2.upd G a o') := k.trans (Kp.updL h f) fun _ z => .inl z
theorem Kp.andD {F : Addr → Prop} {H G : Hp} {a : Addr} {xs : List (Key × V)} {o' : HO} (k : Kp F H G) (h : G a = some (.dK xs)) (f : F a) : Kp F H (L2.upd G a o') := k.trans (Kp.updD h f) fun _ z => .inl z
theorem Kp.andN {F : Addr → Prop} {H G : Hp} {a : Addr} {o' : HO} (k : Kp F H G) (h : G a = none) : Kp F H (L2.upd G a o') := k.trans (Kp.new h) fun _ z => .inl z
/-- what is new behind it was new ahead of it -/
theorem Kp.free {F : Addr → Prop} {H G : Hp} {a : Addr} (k : Kp F H G) (h : G a = none) (n : F a → H a = none) : H a = none := by
  by_cases f : F a
  · exact n f
  · cases e : H a with
    | none => rfl
    | some o =>
      rw [k a o e fun _ => f] at h
      cases h
theorem Kt.ext {F : Addr → Prop} {H G : Hp} (e : LamX.ExtN H G) : Kt F H G := fun b o q t _ => e b o q t
theorem Kt.none {F : Addr → Prop} {H G : Hp} {a : Addr} (k : Kt F H G) (m : ∀ o, H a = some o → (∀ ps, o ≠ .tbl ps) ∧ (Mu o → ¬ F a)) (h : G a = Option.none) : H a = Option.none := by
  cases e : H a with
  | none => rfl
  | some o =>
    rw [k a o e (m o e).1 (m o e).2] at h
    cases h
theorem Kp.tabs {F : Addr → Prop} {H G : Hp} {T : List (Addr × Str)} (k : Kp F H G) (t : LamX.Tabs T H) : LamX.Tabs T G := fun p hp => by
  obtain ⟨ps, h1, h2, h3⟩ := t p hp
  exact ⟨ps, k _ _ h1 (fun m => nomatch m), h2, fun pos cv hc => by
    obtain ⟨c, e1, e2⟩ := h3 pos cv hc
    exact ⟨c, e1, k _ _ e2 fun m => by unfold LamX.CodeO at m; exact nomatch m⟩⟩
theorem Kt.tup {F : Addr → Prop} {H G : Hp} (k : Kt F H G) {a : Addr} {xs : List V} (h : H a = some (.tup xs)) : G a = some (.tup xs) := k _ _ h (fun _ z => nomatch z) fun m => nomatch m
theorem Kt.lst {F : Addr → Prop} {H G : Hp} (k : Kt F H G) {a : Addr} {xs : List V} (h : H a = some (.lst xs)) (n : ¬ F a) : G a = some (.lst xs) := k _ _ h (fun _ z => nomatch z) fun _ => n
theorem Kt.dK {F : Addr → Prop} {H G : Hp} (k : Kt F H G) {a : Addr} {xs : List (Key × V)} (h : H a = some (.dK xs)) (n : ¬ F a) : G a = some (.dK xs) := k _ _ h (fun _ z => nomatch z) fun _ => n
theorem Kt.ins {F : Addr → Prop} {H G : Hp} (k : Kt F H G) {a C dx : Addr} {fs : List (Str × V)} (h : H a = some (.ins C dx fs)) (n : ¬ F a) : G a = some (.ins C dx fs) := k _ _ h (fun _ z => nomatch z) fun _ => n

theorem upd_none {H : Hp} {a b : Addr} {o : HO} (h : upd H a o b = none) : b ≠ a ∧ H b = none := by
  by_cases e : b = a
  · rw [e, upd_same] at h
    cases h
  · rw [upd_ne e] at h
    exact ⟨e, h⟩

/-! ### 2. Data: what is written into blocks -/
def leafV : V → Bool
  | .non => true
  | .bl _ => true
  | .int _ => true
  | .str x => PyData.strOk x
  | _ => false
def SumD (P : V → Nat → Nat → Prop) : List V → Nat → Nat → Prop
  | [], w, z => w = 0 ∧ z = 0
  | v :: vs, w, z => ∃ x y a b, P v x a ∧ SumD P vs y b ∧ w = x + y ∧ z = a + b
/-- v is a leaf, or tuples within one another, at most n deep; w is its weight, z how many things it has -/
def Dat (H : Hp) : Nat → V → Nat → Nat → Prop
  | 0, _, _, _ => False
  | n + 1, v, w, z => (leafV v = true ∧ w = 1 ∧ z = 1) ∨ ∃ a xs u, v = .ref a ∧ H a = some (.tup xs) ∧ SumD (Dat H n) xs w u ∧ z = u + 1
theorem SumD.imp {P Q : V → Nat → Nat → Prop} (h : ∀ v w z, P v w z → Q v w z) : ∀ {xs : List V} {w z : Nat}, SumD P xs w z → SumD Q xs w z
  | [], _, _, e => e
  | _ :: _, _, _, ⟨x, y, a, b, p, r, e⟩ => ⟨x, y, a, b, h _ _ _ p, SumD.imp h r, e⟩
theorem SumD.mem {P : V → Nat → Nat → Prop} : ∀ {xs : List V} {w z : Nat}, SumD P xs w z → ∀ v ∈ xs, ∃ x a, P v x a
  | [], _, _, _, _, h => by cases h
  | _ :: _, _, _, ⟨x, _, a, _, p, r, _⟩, v, h => by
    rcases List.mem_cons.mp h with e | e
    · exact ⟨x, a, e ▸ p⟩
    · exact SumD.mem r v e
theorem SumD.app {P : V → Nat → Nat → Prop} : ∀ {xs ys : List V} {w z u t : Nat}, SumD P xs w z → SumD P ys u t → SumD P (xs ++ ys) (w + u) (z + t)
  | [], _, _, _, _, _, ⟨e, f⟩, r => by
    subst e f
    rw [Nat.zero_add, Nat.zero_add]
    exact r
  | _ :: _, _, _, _, _, _, ⟨x, y, a, b, p, q, e, f⟩, r => ⟨x, _, a, _, p, SumD.app q r, by omega, by omega⟩
theorem SumD.of_app {P : V → Nat → Nat → Prop} : ∀ {xs ys : List V} {w z : Nat}, SumD P (xs ++ ys) w z → ∃ x a y b, SumD P xs x a ∧ SumD P ys y b ∧ w = x + y ∧ z = a + b
  | [], _, _, _, r => ⟨0, 0, _, _, ⟨rfl, rfl⟩, r, by omega, by omega⟩
  | _ :: _, _, _, _, ⟨x, y, a, b, p, q, e, f⟩ => by
    obtain ⟨x', a', y', b', p', q', e', f'⟩ := SumD.of_app q
    exact ⟨_, _, y', b', ⟨x, x', a, a', p, p', rfl, rfl⟩, q', by omega, by omega⟩
theorem Dat.pos {H : Hp} : ∀ {n : Nat} {v : V} {w z : Nat}, Dat H n v w z → 1 ≤ z
  | 0, _, _, _, h => h.elim
  | _ + 1, _, _, _, .inl h => by omega
  | _ + 1, _, _, _, .inr ⟨a, xs, u, e, h, s, f⟩ => by omega
theorem SumD.len {H : Hp} {n : Nat} : ∀ {xs : List V} {w z : Nat}, SumD (Dat H n) xs w z → xs.length ≤ z
  | [], _, _, _ => Nat.zero_le _
  | _ :: _, _, _, ⟨x, y, a, b, p, r, e, f⟩ => by
    have h1 := p.pos
    have h2 := SumD.len r
    rw [List.length_cons]
    omega
theorem Dat.kt {F : Addr → Prop} {H G : Hp} (k : Kt F H G) : ∀ {n : Nat} {v : V} {w z : Nat}, Dat H n v w z → Dat G n v w z
  | 0, _, _, _, h => h
  | _ + 1, _, _, _, .inl h => .inl h
  | _ + 1, _, _, _, .inr ⟨a, xs, u, e, h, s, f⟩ => .inr ⟨a, xs, u, e, k.tup h, s.imp fun _ _ _ p => Dat.kt k p, f⟩
theorem Dat.up {H : Hp} : ∀ {n : Nat} {v : V} {w z : Nat}, Dat H n v w z → Dat H (n + 1) v w z
  | 0, _, _, _, h => h.elim
  | _ + 1, _, _, _, .inl h => .inl h
  | _ + 1, _, _, _, .inr ⟨a, xs, u, e, h, s, f⟩ => .inr ⟨a, xs, u, e, h, s.imp fun _ _ _ p => Dat.up p, f⟩
theorem Dat.le {H : Hp} {n m : Nat} {v : V} {w z : Nat} (d : Dat H n v w z) (h : n ≤ m) : Dat H m v w z := by
  induction m with
  | zero =>
    have : n = 0 := by omega
    subst this
    exact d
  | succ m ih =>
    by_cases e : n = m + 1
    · subst e
      exact d
    · exact (ih (by omega)).up
/-- x and y are the same data: leaves, tuples and lists of the same -/
def Al (H : Hp) : Nat → V → V → Prop
  | 0, _, _ => False
  | n + 1, x, y => (leafV y = true ∧ x = y) ∨ ∃ (a b : Addr) (xs ys : List V), x = .ref a ∧ y = .ref b ∧ ((H a = some (.tup xs) ∧ H b = some (.tup ys)) ∨ (H a = some (.lst xs) ∧ H b = some (.lst ys))) ∧ xs.length = ys.length ∧ (ys.length : Int) < 2 ^ 62 ∧ ∀ (i : Nat) (x y : V), xs[i]? = some x → ys[i]? = some y → Al H n x y
theorem SumD.mem2 {P : V → Nat → Nat → Prop} : ∀ {xs : List V} {w z : Nat}, SumD P xs w z → ∀ v ∈ xs, ∃ x a, P v x a ∧ a ≤ z
  | [], _, _, _, _, h => by cases h
  | _ :: _, _, _, ⟨x, _, a, b, p, r, _, e⟩, v, h => by
    rcases List.mem_cons.mp h with q | q
    · exact ⟨x, a, q ▸ p, by omega⟩
    · obtain ⟨x', a', p', l⟩ := SumD.mem2 r v q
      exact ⟨x', a', p', by omega⟩
theorem Dat.al {H : Hp} : ∀ {n : Nat} {v : V} {w z : Nat}, Dat H n v w z → z ≤ 10000 → Al H n v v
  | 0, _, _, _, h, _ => h.elim
  | _ + 1, _, _, _, .inl h, _ => .inl ⟨h.1, rfl⟩
  | _ + 1, _, _, _, .inr ⟨a, xs, u, e, h, s, f⟩, hz => .inr ⟨a, a, xs, xs, e, e, .inl ⟨h, h⟩, rfl, by have := s.len; omega, fun i x y hx hy => by
    rw [hx] at hy
    cases hy
    obtain ⟨w, z, d, l⟩ := s.mem2 x (List.mem_of_getElem? hx)
    exact d.al (by omega)⟩
theorem Al.leaf {H : Hp} {n : Nat} {v : V} (h : leafV v = true) : Al H (n + 1) v v := .inl ⟨h, rfl⟩
end K5

set_option Elab.async false
set_option linter.all false
set_option maxRecDepth 100000
set_option maxHeartbeats 1000000
/-! ### Rules for what the layer lacks: xs.extend(t), bs.count(True), d.update(pairs), zip(xs, t) -/
namespace K5
open PySem PySem.Spec PyProof.Rows L2
theorem ext_tup (l : Addr) (xs : Array Value) (n : Nat) (b : Addr) (ys : Array Value) (m : Nat) (dd : Option Addr) (sl : Array (Option Value))
    (h0 : ¬(!xs.isEmpty && Builtin.List.listTooLong (xs.size + ys.size)) = true) (h1 : xs.size ≤ sizeLine) (h2 : xs.size + ys.size ≤ sizeLine + 1) :
    Meets (Builtin.«list.extend» ⟨[.ref l, .ref b], []⟩) (fun _ R s => s.heap.get? l = some { cls := .type "list", dict := none, data := .seq xs n, slots := #[] } ∧ s.heap.get? b = some ⟨.type "tuple", dd, .seq ys m, sl⟩ ∧
      R (.ok (.ret Value.none)) { s with heap := s.heap.update l (Obj.mapSeq fun x => x ++ ys), toks := s.toks }) :=
  .of_wp fun prog w A R s h => by
    obtain ⟨hp, g, d, tk, os⟩ := s
    obtain ⟨hl, hb, h⟩ := h
    have f1 := PySem.AutoSeq1.idx_int
    have f2 := PySem.AutoSeq1.sub_tuple_tuple
    have f3 := PySem.AutoSeq1.sub_list_list
    have f4 := PySem.AutoSeq1.sub_tuple_list
    have f5 := PySem.AutoSeq1.sub_list_tuple
    have hz' : (xs ++ ys).size ≤ sizeLine + 1 := by rw [Array.size_append]; exact h2
    wp_walk using (wpAny_updateSeq hl rfl (hz := h1) (_hz' := hz')), wpAny_loadPart' hl, wpAny_loadPart' hb
    exact ⟨_, rfl, h⟩
def rExtT : V → List V → Hp → VK → Prop := fun x vs H Q => ∃ l b xs zs, x = .ref l ∧ vs = [.ref b] ∧ H l = some (.lst xs) ∧ H b = some (.tup zs) ∧ xs.length + zs.length ≤ sizeLine ∧ Q .non (upd H l (.lst (xs ++ zs)))
section
variable {X : Cx}
theorem mt_extT : MtM X "list.extend" rExtT := by
  intro pins s σ H x vs v us Q I rx rv h
  obtain ⟨l, b, xs, zs, rfl, rfl, hH, hB, hz, q⟩ := h
  cases rx
  obtain ⟨u, rfl, ru⟩ := rv.one
  cases ru
  obtain ⟨z, ja, n, r, hl, e⟩ := I.lstM hH
  obtain ⟨z2, jb, r2, ⟨oc, od, oda, osl⟩, e2, c2, m, d2⟩ := (show ObjOk X.prog X.w H s.heap b (.tup zs) from I.hok b _ hB)
  dsimp only at c2 d2
  subst c2 d2
  have hl2 := r2.length
  have fits : ja.toArray.size + jb.toArray.size ≤ sizeLine := by
    rw [List.size_toArray, List.size_toArray, ← hl, ← hl2]
    exact hz
  have door : ¬ (!ja.toArray.isEmpty && Builtin.List.listTooLong (ja.toArray.size + jb.toArray.size)) = true := by
    rw [notLongL fits, Bool.and_false]; exact Bool.false_ne_true
  refine call_meets F.slot_list_extend ⟨_, e, rfl⟩ F.entry_list_extend (F.args_list_extend_2 _ _) (ext_tup l ja.toArray n b jb.toArray m od osl door (by rw [List.size_toArray]; omega) (by omega)) ⟨e, e2, ?_⟩
  exact ⟨.non, _, I.lset (its' := ja ++ jb) hH e (by simp) (r.append r2) (by rw [List.length_append]; exact hz), rfl, q⟩
/-- bs.count(True) -/
def rCntB (K : PySem.W.Frag) : V → List V → Hp → VK → Prop := fun x xs H Q => ∃ (p : Addr) (bs : List Bool), x = .ref p ∧ xs = [.bl true] ∧ SqL K H p (bs.map V.bl) ∧ Q (.int (bs.count true : Nat)) H
theorem flat_bools (bs : List Bool) : (bs.map V.bl).all flatV = true := by
  rw [List.all_map]
  exact List.all_eq_true.mpr fun _ _ => rfl
theorem countB : ∀ {bs : List Bool} {us : List Value}, Vals (bs.map V.bl) us → us.countP (eqU (.bl true)) = bs.count true
  | [], _, r => by
    cases r
    rfl
  | b :: bs, _, r => by
    rw [List.map_cons] at r
    cases r with
    | cons h t =>
      rw [List.countP_cons, countB t, List.count_cons]
      have e : eqU (.bl true) _ = eqV (.bl b) (.bl true) := eqU_of h rfl
      rw [e]
      cases b <;> rfl
theorem mt_cntB : MtR X "list.count" (rCntB X.K) := by
  intro pins s σ H x xs v us Q I rx rxs h
  obtain ⟨p, bs, rfl, rfl, hs, q⟩ := h
  cases rx
  obtain ⟨u, rfl, ru⟩ := rxs.one
  obtain ⟨its, rv, ⟨⟨cls, dd, data, sl⟩, n, ho, hc, hdn, hd⟩, hlen⟩ := I.list hs
  dsimp only at hc hd
  subst hc hd
  refine call_meets PySem.F.slot_list_count ⟨_, ho, rfl⟩ PySem.F.entry_list_count (PySem.F.args_list_count_2 _ _) (SeqAt.list_countAt p its.toArray n dd sl u (eqU (.bl true))) ⟨ho, fun y hy => mem_eqAt ru rfl rv (flat_bools bs) y (by simpa using hy), ?_⟩
  refine ⟨.int (bs.count true : Nat), H, I.tok _, ⟨s.toks, ?_⟩, q⟩
  show Value.int ((its.toArray.toList.countP (eqU (.bl true)) : Nat) : Int) s.toks = _
  rw [show its.toArray.toList.countP (eqU (.bl true)) = bs.count true from countB rv]
end
end K5
namespace K5
open PySem PySem.Spec PyProof.Rows L2
section
variable {X : Cx} {pins : List (Addr × Obj)} {σ : L2.St} {H : Hp} {s : Shared}
theorem uvOf (I : Inv X pins σ H s) : ∀ {ps : List Addr} {kvs : List (Key × V)}, Paired (fun p kv => SqT X.K H p [kV kv.1, kv.2]) ps kvs →
    ∃ (rs : List (Key × Value)) (uv : List (Value × Value)), KV kvs rs ∧ rs.length = ps.length ∧ uv.length = ps.length ∧
      ∀ (j : Nat) (k v : Value), uv[j]? = some (k, v) → ∃ (b : Addr) (kk : Key), ps[j]? = some b ∧ IsTup s.heap b #[k, v] ∧ rs[j]? = some (kk, v) ∧ keyIs kk k = true
  | _, _, .nil => ⟨[], [], .nil, rfl, rfl, fun j k v e => by simp at e⟩
  | _, _, .cons (a := p) (b := kv) h t => by
    obtain ⟨rs, uv, r, l1, l2, hp⟩ := uvOf I t
    obtain ⟨its, rv, ht, _⟩ := I.tuple h
    obtain ⟨u, y, ei, ru, ry⟩ := vals2 rv
    subst ei
    refine ⟨(kv.1, y) :: rs, (u, y) :: uv, .cons ⟨rfl, ry⟩ r, by rw [List.length_cons, List.length_cons, l1], by rw [List.length_cons, List.length_cons, l2], fun j k v e => ?_⟩
    cases j with
    | zero =>
      have e' : (u, y) = (k, v) := Option.some.inj e
      cases e'
      exact ⟨p, kv.1, rfl, ht, rfl, kV_is (P := X.prog) (w := X.w) ru⟩
    | succ j => exact hp j k v (by simpa using e)
def rUpdP (K : PySem.W.Frag) : V → List V → Hp → VK → Prop := fun x xs H Q => ∃ (d a : Addr) (ps : List Addr) (acc kvs : List (Key × V)), x = .ref d ∧ xs = [.ref a] ∧ H d = some (.dK acc) ∧ SqL K H a (ps.map V.ref) ∧
  Paired (fun p kv => SqT K H p [kV kv.1, kv.2]) ps kvs ∧ acc.length + ps.length ≤ sizeLine ∧ Q .non (upd H d (.dK (mergeK acc kvs)))
theorem mt_updP (hcalm : X.calm = true) : MtR X "dict.update" (rUpdP X.K) := by
  intro pins s σ H x xs v us Q I rx rxs h
  obtain ⟨d, a, ps, acc, kvs, rfl, rfl, hd, hq, hp, hz, q⟩ := h
  cases rx
  obtain ⟨u, rfl, ru⟩ := rxs.one
  cases ru
  obtain ⟨its, rv, ⟨oa, n, ho, hc, hdn, hdat⟩, _⟩ := I.list hq
  have ei := refs_at rv
  subst ei
  obtain ⟨rs, uv, rel, l1, l2, hpr⟩ := uvOf I hp
  obtain ⟨zd, hsys, vs, rd, hD⟩ := (show ObjOk X.prog X.w H s.heap d (.dK acc) from I.hok d _ hd)
  have ok : PlainSeq "list" s.heap a (ps.map Value.ref).toArray ∧ PairItems s.heap (ps.map Value.ref).toArray (fun j => ps.getD j 0) uv := by
    refine ⟨⟨oa, n, ho, hc, hdn, hdat⟩, by simp [l2], fun j k v e => ?_⟩
    obtain ⟨b, kk, e1, e2, _⟩ := hpr j k v e
    have eg : ps.getD j 0 = b := by rw [List.getD_eq_getElem?_getD, e1]; rfl
    refine ⟨?_, ?_⟩
    · show (ps.map Value.ref).toArray[j]? = some (.ref (ps.getD j 0))
      rw [eg]
      simp [e1]
    · show PairAt s.heap (ps.getD j 0) k v
      rw [eg]
      exact .inl e2
  obtain ⟨od, hod, hcd⟩ := hD.typeIs (s := s)
  have hdf : d ∉ a :: (List.range uv.length).map (fun j => ps.getD j 0) := fun hm => by
    rcases List.mem_cons.mp hm with e | hm
    · subst e
      rw [ho] at hod
      cases hod
      rw [hc] at hcd
      exact absurd (Value.type.inj hcd) (by decide)
    · obtain ⟨j, hj, e⟩ := List.mem_map.mp hm
      have hj := List.mem_range.mp hj
      obtain ⟨b, kk, e1, ⟨ob, hob, hcb, _⟩, _⟩ := hpr j uv[j].1 uv[j].2 (List.getElem?_eq_getElem hj)
      have eg : ps.getD j 0 = b := by rw [List.getD_eq_getElem?_getD, e1]; rfl
      rw [eg] at e
      subst e
      rw [hob] at hod
      cases hod
      rw [hcb] at hcd
      exact absurd (Value.type.inj hcd) (by decide)
  have la : vs.length = acc.length := (Paired.length rd).symm
  refine call_update_pairs (knd := mixKind X.prog X.w) (kvs := rs) (PairArg.list a _ _ uv) (I.ok.hd hcalm) ok hdf ⟨by rw [l1, l2], fun i key v e => ?_⟩ hD (by rw [l2, la]; exact hz) fun h' tk hD' k => ?_
  · obtain ⟨b, kk, _, _, e3, e4⟩ := hpr i key v e
    exact ⟨kk, e3, e4⟩
  · have hlen : (mergeK acc kvs).length ≤ sizeLine := by
      refine Nat.le_trans (length_mergeK kvs acc) ?_
      rw [show kvs.length = ps.length by rw [← l1]; exact Paired.length rel]
      exact hz
    obtain ⟨oe, hoe, _⟩ := hD'.typeIs (s := { s with heap := h' })
    refine ⟨.non, _, I.write (t' := tk) (o := .dK (mergeK acc kvs)) (by rw [hd]; trivial) (.inl rfl) (fun b o nb e => k b o nb (fun z => nomatch z) e) ⟨oe, hoe⟩ ⟨hlen, hsys, _, KV.merge rel rd, hD'⟩, rfl, q⟩
end
end K5

set_option Elab.async false
set_option linter.all false
set_option maxRecDepth 100000
set_option maxHeartbeats 1000000
/-! ### zip of a list and of a list or a tuple -/
namespace K5
open PySem PySem.Spec PyProof.Rows L2
/-- how the second one is walked: its iterator's state, and what it stands for -/
structure Snd (P : Program) (w : World) (j b : Addr) where
  st : Nat → Heap → Prop
  own : Heap → Array Value → Prop
  obj : ∀ i h, st i h → ∃ o, h.get? j = some o ∧ ∀ v, o.data ≠ .cell v
  keep : ∀ i h g, st i h → (∀ o, h.get? j = some o → g.get? j = some o) → st i g
  draws : ∀ (A : Around) (ys : Array Value), A.handled = none → Draws P w A j [j, b] ys.size (fun i v => ys[i]? = some v) (fun i h => st i h ∧ own h ys)
def sndL (P : Program) (w : World) (j b : Addr) (ne : b ≠ j) : Snd P w j b where
  st := fun i h => h.IsListIter j b i
  own := fun h ys => h.IsList b ys
  obj := fun i h ⟨o, e, _, d⟩ => ⟨o, e, fun v q => by rw [d] at q; cases q⟩
  keep := fun i h g x k => x.at k
  draws := fun A ys hh => Draws.list hh j b ne ys
def sndT (P : Program) (w : World) (j b : Addr) (ne : b ≠ j) : Snd P w j b where
  st := fun i h => h.IsTupleIter j b i
  own := fun h ys => h.IsTuple b ys
  obj := fun i h ⟨o, e, _, d⟩ => ⟨o, e, fun v q => by rw [d] at q; cases q⟩
  keep := fun i h g x k => x.at k
  draws := fun A ys hh => Draws.tuple hh j b ne ys
/-- one turn after another: the items in new pairs -/
def ItM (K : PySem.W.Frag) (a : Addr) (sq : Hp → Prop) (xs ys : List V) : It where
  go := fun i H => SqL K H a xs ∧ sq H ∧ i < xs.length ∧ i < ys.length
  yld := fun i H v G => ∃ T x y, v = .ref T ∧ H T = none ∧ G = upd H T (.tup [x, y]) ∧ xs[i]? = some x ∧ ys[i]? = some y
  stop := fun i H => SqL K H a xs ∧ sq H ∧ i ≤ xs.length ∧ i ≤ ys.length ∧ (i = xs.length ∨ i = ys.length)
theorem turnM {P : Program} {w : World} {K : PySem.W.Frag} {elts : List Expr} {kk : Nat} {tpos : Pos} {a b z TI TO i1 i2 : Addr} {xs ys : List V} {sq : Hp → Prop} (D : Snd P w i2 b) (S : ZipSep2 z TI TO i1 i2 [i1, a] [i2, b]) (na : a ≠ i1)
    (rd : ∀ {X : Cx} {pins : List (Addr × Obj)} {σ : L2.St} {H : Hp} {s : Shared}, X.K = K → Inv X pins σ H s → sq H → ∃ its : List Value, Vals ys its ∧ D.own s.heap its.toArray) :
    Turn P w K (.Tuple elts kk tpos) (ItM K a sq xs ys) [z, TI, TO, i1, i2] z (fun i h => IsZip h z TI TO .none ∧ IsTupOf2 h TI (.ref i1) (.ref i2) ∧ (∃ x y, IsTupOf2 h TO x y) ∧ h.IsListIter i1 a i ∧ D.st i h) where
  mem := List.mem_cons_self
  obj := fun i h ⟨hz, hTI, ⟨x, y, hTO⟩, ⟨o1, e1, _, d1⟩, h2⟩ c hc => by
    simp only [List.mem_cons, List.not_mem_nil, or_false] at hc
    rcases hc with rfl | rfl | rfl | rfl | rfl
    · exact ⟨_, hz, nofun⟩
    · exact ⟨_, hTI, nofun⟩
    · exact ⟨_, hTO, nofun⟩
    · exact ⟨o1, e1, fun v q => by rw [d1] at q; cases q⟩
    · exact D.obj i h h2
  keep := fun i h g ⟨hz, hTI, ⟨x, y, hTO⟩, h1, h2⟩ k =>
    ⟨k _ (by simp) _ hz, k _ (by simp) _ hTI, ⟨x, y, k _ (by simp) _ hTO⟩, h1.at fun o q => k _ (by simp) o q, D.keep i h g h2 fun o q => k _ (by simp) o q⟩
  item := by
    intro X hP hw hK hc i pins s σ H E I hf ⟨hz, hTI, ⟨x0, y0, hTO⟩, h1, h2⟩ ⟨qx, qy, lx, ly⟩
    subst hP hw
    obtain ⟨ja, ra, pa, _⟩ := I.list (by rw [hK]; exact qx)
    obtain ⟨jb, rb, pb⟩ := rd hK I qy
    have la := ra.length
    have lb := rb.length
    have hh := I.ok.hd hc
    refine wpAny_pyNext_zipD2_item S (Draws.list (A := X.A.in1) hh i1 a na ja.toArray) (D.draws X.A.in1 jb.toArray hh) hz hTI hTO ⟨h1, pa.isList⟩ ⟨h2, pb⟩ (by simp; omega) (by simp; omega) fun u1 u2 g tk e1 e2 z' TO' n1 n2 hT hsz hk => ?_
    refine ⟨_, rfl, wpAny_letOwnedTupleGo_zip (s := { s with heap := g, toks := tk }) z' fun g' z'' sb => ?_⟩
    have hzl : z < s.heap.objs.size := Heap.lt_size hz
    have old : ∀ c o, c ∉ [z, TI, TO, i1, i2] → s.heap.get? c = some o → g'.get? c = some o := fun c o nc q => by
      simp only [List.mem_cons, List.not_mem_nil, or_false, not_or] at nc
      exact (sb.2 c nc.1).trans (hk c o nc.1 nc.2.2.1 nc.2.2.2.1 nc.2.2.2.2 q)
    obtain ⟨x, hx⟩ : ∃ x, xs[i]? = some x := ⟨_, List.getElem?_eq_getElem lx⟩
    obtain ⟨y, hy⟩ : ∃ y, ys[i]? = some y := ⟨_, List.getElem?_eq_getElem ly⟩
    obtain ⟨v1, hv1, r1⟩ := ra.get hx
    obtain ⟨v2, hv2, r2⟩ := rb.get hy
    have e1' : ja[i]? = some u1 := by simpa using e1
    have e2' : jb[i]? = some u2 := by simpa using e2
    rw [hv1] at e1'
    rw [hv2] at e2'
    cases e1'
    cases e2'
    have hT' : g'.get? s.heap.objs.size = some { cls := .type "tuple", data := .seq #[u1, u2] } := (sb.2 _ (Nat.ne_of_gt hzl)).trans hT
    have new : ObjOk X.prog X.w (upd H s.heap.objs.size (.tup [x, y])) g' s.heap.objs.size (.tup [x, y]) := ⟨by show 2 ≤ sizeLine; decide, [u1, u2], .cons r1 (.cons r2 .nil), ⟨_, hT', rfl, _, rfl⟩⟩
    refine ⟨.ref s.heap.objs.size, _, I.turnedNew (t' := tk) old hf (Nat.le_refl _) new, rfl, ⟨_, x, y, rfl, I.hok.fresh (Nat.le_refl _), rfl, hx, hy⟩, ⟨z'', (sb.2 _ S.TIz).trans (hk _ _ S.TIz S.TITO S.TIi1 S.TIi2 hTI), ⟨u1, u2, (sb.2 _ S.TOz).trans TO'⟩, n1.1.at fun o q => (sb.2 _ S.zi1.symm).trans q, D.keep _ _ _ n2.1 fun o q => (sb.2 _ S.zi2.symm).trans q⟩, fun c hcm => ?_⟩
    have hlt : c < s.heap.objs.size := by
      simp only [List.mem_cons, List.not_mem_nil, or_false] at hcm
      rcases hcm with rfl | rfl | rfl | rfl | rfl
      · exact hzl
      · exact Heap.lt_size hTI
      · exact Heap.lt_size hTO
      · obtain ⟨_, q, _⟩ := h1
        exact Heap.lt_size q
      · obtain ⟨_, q, _⟩ := D.obj i _ h2
        exact Heap.lt_size q
    rw [upd_ne (Nat.ne_of_lt hlt)]
    exact (hf c hcm).1
  done := by
    intro X hP hw hK hc i pins s σ H E I hf ⟨hz, hTI, ⟨x0, y0, hTO⟩, h1, h2⟩ ⟨qx, qy, lx, ly, hend⟩
    subst hP hw
    obtain ⟨ja, ra, pa, _⟩ := I.list (by rw [hK]; exact qx)
    obtain ⟨jb, rb, pb⟩ := rd hK I qy
    have la := ra.length
    have lb := rb.length
    have hh := I.ok.hd hc
    refine wpAny_pyNext_zipD2_end S (Draws.list (A := X.A.in1) hh i1 a na ja.toArray) (D.draws X.A.in1 jb.toArray hh) hz hTI hTO ⟨h1, pa.isList⟩ ⟨h2, pb⟩ (by simp; omega) (by simp; omega) (by simp; omega) fun g tk hk => ⟨rfl, I.turnedL (t' := tk) (ch := [z, TI, TO, i1, i2]) (fun c o nc q => ?_) hf⟩
    simp only [List.mem_cons, List.not_mem_nil, or_false, not_or] at nc
    exact hk c o nc.1 nc.2.2.1 nc.2.2.2.1 nc.2.2.2.2 q
  self := fun A i s Q E st h => wpAny_pyIter_zip st.1 h
def iZipM (K : PySem.W.Frag) (ta : TA) : TI := fun σ H R => ta σ H fun vs G => ∃ (a b : Addr) (xs ys : List V), vs = [.ref a, .ref b] ∧ SqL K G a xs ∧ ((SqL K G b ys ∧ R (ItM K a (fun J => SqL K J b ys) xs ys) G) ∨ (SqT K G b ys ∧ R (ItM K a (fun J => SqT K J b ys) xs ys) G))
theorem pi_zipM {X : Cx} {e e2 : Expr} {ta : TA} {p pos tpos : Pos} {elts : List Expr} {kk : Nat} (hg : Gl X "zip") (hm : X.mg "zip" = none) (ha : PA X [e, e2] ta)
    (hs : starEach [e, e2] X.env = (false, eval e X.env) :: starEach [e2] X.env := by rfl) (hpl : (backTo pos (starEach [e2] X.env)).any (·.1) = false := by rfl) :
    PI X (.Tuple elts kk tpos) (.Call (.Name "zip" p) [e, e2] [] pos) (iZipM X.K ta) := by
  refine ⟨fun pins s σ H R I h => Call_ (ld_blt I hg hm PyProof.Rows.boot_zip (PyProof.Rows.callWith_type1 (thn (ha.run pos pins s σ H _ I h) fun us s1 ⟨vs, G, I1, r1, a, b, xs, ys, ex, qx, q1⟩ => ?_) hs hpl))⟩
  subst ex
  obtain ⟨u1, u2, eu, ra, rb⟩ := vals2 r1
  subst eu
  cases ra
  cases rb
  have lt5 : ∀ {c n : Nat}, c ∈ [n + 4, n + 2, n + 3, n, n + 1] → n ≤ c := fun {c n} hc => by
    simp only [List.mem_cons, List.not_mem_nil, or_false] at hc
    omega
  have fr : ∀ c, c ∈ [s1.heap.objs.size + 4, s1.heap.objs.size + 2, s1.heap.objs.size + 3, s1.heap.objs.size, s1.heap.objs.size + 1] → FpOk X pins G c := fun c hc => I1.fpOk (lt5 hc) (I1.hok.fresh (lt5 hc))
  obtain ⟨ja, va, pa, _⟩ := I1.list qx
  have na : a ≠ s1.heap.objs.size := Nat.ne_of_lt pa.lt
  rcases q1 with ⟨qy, q⟩ | ⟨qy, q⟩
  · obtain ⟨jb, vb, pb, _⟩ := I1.list qy
    have nb : b ≠ s1.heap.objs.size + 1 := Nat.ne_of_lt (Nat.lt_succ_of_lt pb.lt)
    refine zip_begins2 (begins_list a ja.toArray) (begins_list b jb.toArray) pa.isList pb.isList fun g hz hTI hTO e1 e2 hsz hk => wpAny_pyIter_zip hz ?_
    refine ⟨_, _, _, _, G, rfl, I1.kept (t' := s1.toks) hk, turnM (sndL X.prog X.w (s1.heap.objs.size + 1) b nb) (zip_sep2 (fp1 := [a]) (fp2 := [b]) (by simpa using pa.lt) (by simpa using pb.lt)) na (fun {Y pn τ J t} eK IY sq => ?_), ⟨hz, hTI, ⟨_, _, hTO⟩, ⟨_, e1, rfl, rfl⟩, ⟨_, e2, rfl, rfl⟩⟩, fr, q⟩
    obtain ⟨jc, vc, pc, _⟩ := IY.list (by rw [eK]; exact sq)
    exact ⟨jc, vc, pc.isList⟩
  · obtain ⟨jb, vb, pb, _⟩ := I1.tuple qy
    have lb : b < s1.heap.objs.size := by
      obtain ⟨_, e, _⟩ := pb
      exact Heap.lt_size e
    have nb : b ≠ s1.heap.objs.size + 1 := Nat.ne_of_lt (Nat.lt_succ_of_lt lb)
    refine zip_begins2 (begins_list a ja.toArray) (begins_tuple b jb.toArray) pa.isList pb fun g hz hTI hTO e1 e2 hsz hk => wpAny_pyIter_zip hz ?_
    refine ⟨_, _, _, _, G, rfl, I1.kept (t' := s1.toks) hk, turnM (sndT X.prog X.w (s1.heap.objs.size + 1) b nb) (zip_sep2 (fp1 := [a]) (fp2 := [b]) (by simpa using pa.lt) (by simpa using lb)) na (fun {Y pn τ J t} eK IY sq => ?_), ⟨hz, hTI, ⟨_, _, hTO⟩, ⟨_, e1, rfl, rfl⟩, ⟨_, e2, rfl, rfl⟩⟩, fr, q⟩
    obtain ⟨jc, vc, pc, _⟩ := IY.tuple (by rw [eK]; exact sq)
    exact ⟨jc, vc, pc⟩
/-- a loop over such a zip -/
theorem for_zipM {K : PySem.W.Frag} {a : Addr} {sq : Hp → Prop} {xs ys : List V} {g : TG} {tb : TS} {D : Ends} {σ : L2.St} {H : Hp} (Pv : Nat → L2.St → Hp → Prop) (h0 : Pv 0 σ H) (hq : ∀ i σ H, Pv i σ H → SqL K H a xs ∧ sq H)
    (hs : ∀ (i : Nat) (x y : V) (T : Addr) (σ : L2.St) (H : Hp), xs[i]? = some x → ys[i]? = some y → Pv i σ H → H T = none → g (.ref T) σ (upd H T (.tup [x, y])) fun σ2 H2 => tb { D with nx := Pv (i + 1), ct := Pv (i + 1), bk := D.nx } σ2 H2)
    (hd : ∀ σ H, Pv (min xs.length ys.length) σ H → D.nx σ H) :
    ∃ W : Nat → Nat → L2.St → Hp → Prop, (∃ m, W 0 m σ H) ∧ ∀ i m σ H, W i m σ H →
      ((ItM K a sq xs ys).stop i H ∧ D.nx σ H) ∨ ((ItM K a sq xs ys).go i H ∧ ∃ N : L2.St → Hp → Prop, (∀ σ' H', N σ' H' → ∃ m', m' < m ∧ W (i + 1) m' σ' H') ∧ ∀ v H', (ItM K a sq xs ys).yld i H v H' → g v σ H' fun σ2 H2 => tb { D with nx := N, ct := N, bk := D.nx } σ2 H2) := by
  refine ⟨fun i m σ H => m = min xs.length ys.length - i ∧ i ≤ min xs.length ys.length ∧ Pv i σ H, ⟨_, rfl, Nat.zero_le _, h0⟩, ?_⟩
  rintro i m σ H ⟨rfl, hi, p⟩
  obtain ⟨qx, qy⟩ := hq i σ H p
  by_cases lt : i < min xs.length ys.length
  · refine .inr ⟨⟨qx, qy, by omega, by omega⟩, Pv (i + 1), fun σ' G p' => ⟨min xs.length ys.length - (i + 1), by omega, rfl, by omega, p'⟩, fun v G yl => ?_⟩
    obtain ⟨T, x, y, rfl, hT, rfl, e1, e2⟩ := yl
    exact hs i x y T σ H e1 e2 p hT
  · have e : i = min xs.length ys.length := by omega
    subst e
    exact .inl ⟨⟨qx, qy, by omega, by omega, by omega⟩, hd σ H p⟩
end K5

set_option Elab.async false
set_option linter.all false
set_option maxRecDepth 100000
set_option maxHeartbeats 2000000
/-! ### enumerate of a list or a tuple -/
namespace SupX
open PySem PySem.Spec PyProof.Rows L2 K5
theorem en_new {v : Value} {o : Obj} {Hh : Heap → Prop} (B : Begins v o Hh) :
    Meets (Builtin.«enumerate.__new__» ⟨[.type "enumerate", v], []⟩) (fun _ R s => Hh s.heap ∧
      R (.ok (.ret (.ref (s.heap.push o).objs.size))) { s with heap := (s.heap.push o).push { cls := .type "enumerate", data := .fields #[.none, .bool false, .ref s.heap.objs.size, rawInt 0, .none, .none] } }) :=
  .of_wp fun prog w A R s h => by
    obtain ⟨hp, gs, dr, tk, os⟩ := s
    obtain ⟨hh, h⟩ := h
    have hsub := sub_enumerate
    have it0 : ∀ {A' : Around} {E : Value → Shared → Prop} {Q : Value → Shared → Prop}, Q (.ref hp.objs.size) ⟨hp.push o, gs, dr, tk, os⟩ → wpAny (model prog w) A' (pyIter v) Q E ⟨hp, gs, dr, tk, os⟩ := fun q => B.iter prog w _ _ ⟨hp, gs, dr, tk, os⟩ _ hh q
    wp_walk using it0
    refine wpAny_stack_any fun st => wpAny_pure ?_
    split
    · rename_i c _ _ _ _ _
      cases (c == Value.type "enumerate") <;> (wp_walk using it0) <;> exact ⟨_, rfl, h⟩
    · wp_walk using it0
      exact ⟨_, rfl, h⟩
theorem en_call {prog : Program} {w : World} {A : Around} {E : Value → Shared → Prop} {s : Shared} {v : Value} {o : Obj} {Hh : Heap → Prop} {Q : Value → Shared → Prop} (B : Begins v o Hh) (hh : Hh s.heap)
    (h : ∀ h', IsEnum h' (s.heap.objs.size + 1) s.heap.objs.size 0 .none → h'.get? s.heap.objs.size = some o → (∀ b u, s.heap.get? b = some u → h'.get? b = some u) → Q (.ref (s.heap.objs.size + 1)) { s with heap := h' }) :
    wpAny (model prog w) A (call (.type "enumerate") [v]) Q E s := by
  refine callType_new F.called_enumerate (by decide) (F.typeCall_enumerate_1 _) (F.newCall_enumerate_1 _) (fun obj => F.args_object_init_2 obj _) F.entry_enumerate_new (en_new B) ⟨hh, ?_⟩
  have z1 : (s.heap.push o).objs.size = s.heap.objs.size + 1 := Heap.size_push ..
  show _ ∧ _
  rw [z1]
  have en : IsEnum ((s.heap.push o).push { cls := .type "enumerate", data := .fields #[.none, .bool false, .ref s.heap.objs.size, rawInt 0, .none, .none] }) (s.heap.objs.size + 1) s.heap.objs.size 0 .none := by
    have q := Heap.get?_push_size (s.heap.push o) (o := { cls := .type "enumerate", data := .fields #[.none, .bool false, .ref s.heap.objs.size, rawInt 0, .none, .none] }) rfl
    rw [z1] at q
    exact q
  exact ⟨⟨_, en, rfl⟩, h _ en (Heap.get?_push_of_some _ (Heap.get?_push_size _ B.free)) fun b u x => Heap.get?_push_of_some _ (Heap.get?_push_of_some _ x)⟩
/-- one turn after another: the number and the item in a new pair -/
def ItE (sq : Hp → Prop) (ys : List V) : It where
  go := fun i H => sq H ∧ i < ys.length
  yld := fun i H v G => ∃ T y, v = .ref T ∧ H T = none ∧ G = upd H T (.tup [.int (i : Nat), y]) ∧ ys[i]? = some y
  stop := fun i H => sq H ∧ i = ys.length
theorem turnE {P : Program} {w : World} {K : PySem.W.Frag} {elts : List Expr} {kk : Nat} {tpos : Pos} {b e i2 : Addr} {ys : List V} {sq : Hp → Prop} (D : Snd P w i2 b) (ne : e ≠ i2) (nb : e ≠ b)
    (rd : ∀ {X : Cx} {pins : List (Addr × Obj)} {σ : L2.St} {H : Hp} {s : Shared}, X.K = K → Inv X pins σ H s → sq H → ∃ its : List Value, Vals ys its ∧ D.own s.heap its.toArray) :
    Turn P w K (.Tuple elts kk tpos) (ItE sq ys) [e, i2] e (fun i h => (∃ old, IsEnum h e i2 ((i : Nat) : Int) old) ∧ D.st i h) where
  mem := List.mem_cons_self
  obj := fun i h ⟨⟨old, he⟩, h2⟩ c hc => by
    simp only [List.mem_cons, List.not_mem_nil, or_false] at hc
    rcases hc with rfl | rfl
    · exact ⟨_, he, nofun⟩
    · exact D.obj i h h2
  keep := fun i h g ⟨⟨old, he⟩, h2⟩ k => ⟨⟨old, k _ (by simp) _ he⟩, D.keep i h g h2 fun o q => k _ (by simp) o q⟩
  item := by
    intro X hP hw hK hc i pins s σ H E I hf ⟨⟨old, he⟩, h2⟩ ⟨qy, ly⟩
    subst hP hw
    obtain ⟨jb, rb, pb⟩ := rd hK I qy
    have lb := rb.length
    have hel : e < s.heap.objs.size := Heap.lt_size he
    refine wpAny_pyNext_enum_itemD (D.draws X.A.in1 jb.toArray (I.ok.hd hc)) he ⟨h2, pb⟩ (by simp; omega) ne (by simp [ne, nb]) fun u g tk eu ho st' hT hz hk => ?_
    obtain ⟨st2, own2⟩ := st'
    refine ⟨_, rfl, wpAny_letOwnedTupleGo_enum (s := { s with heap := g, toks := tk + 1 }) ho fun g' he' sb => ?_⟩
    have eu' : jb[i]? = some u := by simpa using eu
    obtain ⟨y, hy, ry⟩ : ∃ y, ys[i]? = some y ∧ RelV y u := by
      have li : i < ys.length := ly
      obtain ⟨u2, h1, h3⟩ := rb.get (List.getElem?_eq_getElem li)
      rw [h1] at eu'
      cases eu'
      exact ⟨_, List.getElem?_eq_getElem li, h3⟩
    have hT2 : g'.get? s.heap.objs.size = some { cls := .type "tuple", data := .seq #[.int i tk, u] } := (sb.2 _ (Nat.ne_of_gt hel)).trans hT
    have new : ObjOk X.prog X.w (upd H s.heap.objs.size (.tup [.int (i : Nat), y])) g' s.heap.objs.size (.tup [.int (i : Nat), y]) := ⟨by show 2 ≤ sizeLine; decide, [.int i tk, u], .cons ⟨_, rfl⟩ (.cons ry .nil), ⟨_, hT2, rfl, _, rfl⟩⟩
    have I1 : Inv X pins σ (upd H s.heap.objs.size (.tup [.int (i : Nat), y])) { s with heap := g', toks := tk + 1 } :=
      I.turnedNew (ch := [e, i2]) (fun c o hb q => (sb.2 c (fun z => hb (by simp [z]))).trans (hk c o (fun z => hb (by simp [z])) (fun z => hb (by simp [z])) q)) hf (Nat.le_refl _) new
    refine ⟨.ref s.heap.objs.size, _, I1, rfl, ⟨_, y, rfl, I.hok.fresh (Nat.le_refl _), rfl, hy⟩, ⟨⟨u, ?_⟩, D.keep _ _ _ st2 fun o q => (sb.2 i2 (Ne.symm ne)).trans q⟩, fun c hb => ?_⟩
    · rw [show ((i + 1 : Nat) : Int) = (i : Int) + 1 by omega]
      exact he'
    · have lc : c < s.heap.objs.size := by
        simp only [List.mem_cons, List.not_mem_nil, or_false] at hb
        rcases hb with rfl | rfl
        · exact hel
        · obtain ⟨_, q, _⟩ := D.obj i _ h2
          exact Heap.lt_size q
      rw [upd_ne (Nat.ne_of_lt lc)]
      exact (hf c hb).1
  done := by
    intro X hP hw hK hc i pins s σ H E I hf ⟨⟨old, he⟩, h2⟩ ⟨qy, ly⟩
    subst hP hw
    obtain ⟨jb, rb, pb⟩ := rd hK I qy
    have lb := rb.length
    obtain ⟨f0, f1, f2, f3, f4, f5⟩ := hf i2 (by simp)
    have en : i = jb.toArray.size := by simp; omega
    subst en
    exact wpAny_pyNext_enum_endD (D.draws X.A.in1 jb.toArray (I.ok.hd hc)) he ⟨h2, pb⟩ fun h' eb => ⟨rfl, I.turned (t' := s.toks) (fun c o hb q => eb c o hb q) f0 f1 f3 f4 f5⟩
  self := fun A i s Q E ⟨⟨_, he⟩, _⟩ h => wpAny_pyIter_enum he h
def iEnT (K : PySem.W.Frag) (ta : TA) : TI := fun σ H R => ta σ H fun vs G => ∃ (b : Addr) (ys : List V), vs = [.ref b] ∧ ((SqL K G b ys ∧ R (ItE (fun J => SqL K J b ys) ys) G) ∨ (SqT K G b ys ∧ R (ItE (fun J => SqT K J b ys) ys) G))
theorem pi_enT {X : Cx} {e : Expr} {ta : TA} {p pos tpos : Pos} {elts : List Expr} {kk : Nat} (hg : Gl X "enumerate") (hm : X.mg "enumerate" = none) (ha : PA X [e] ta) (hs : starEach [e] X.env = [(false, eval e X.env)] := by rfl) :
    PI X (.Tuple elts kk tpos) (.Call (.Name "enumerate" p) [e] [] pos) (iEnT X.K ta) := by
  refine ⟨fun pins s σ H R I h => Call_ (ld_blt I hg hm boot_enumerate (PyProof.Rows.callWith_type1 (thn (ha.run pos pins s σ H _ I h) fun us s1 ⟨vs, G, I1, r1, b, ys, ex, q1⟩ => ?_) hs rfl))⟩
  subst ex
  cases r1 with
  | cons r rr =>
    cases rr
    cases r
    have fr : ∀ c, c ∈ [s1.heap.objs.size + 1, s1.heap.objs.size] → FpOk X pins G c := fun c hc => by
      have le : s1.heap.objs.size ≤ c := by
        simp only [List.mem_cons, List.not_mem_nil, or_false] at hc
        omega
      exact I1.fpOk le (I1.hok.fresh le)
    rcases q1 with ⟨qy, q⟩ | ⟨qy, q⟩
    · obtain ⟨jb, vb, pb, _⟩ := I1.list qy
      have lb := pb.lt
      refine en_call (begins_list b jb.toArray) pb.isList fun g he hi hk => wpAny_pyIter_enum he ?_
      refine ⟨_, _, _, _, G, rfl, I1.kept (t' := s1.toks) hk, turnE (sndL X.prog X.w s1.heap.objs.size b (Nat.ne_of_lt lb)) (Nat.succ_ne_self _) (Nat.ne_of_gt (Nat.lt_succ_of_lt lb)) (fun {Y pn τ J t} eK IY sq => ?_), ⟨⟨.none, he⟩, ⟨_, hi, rfl, rfl⟩⟩, fr, q⟩
      obtain ⟨jc, vc, pc, _⟩ := IY.list (by rw [eK]; exact sq)
      exact ⟨jc, vc, pc.isList⟩
    · obtain ⟨jb, vb, pb, _⟩ := I1.tuple qy
      have lb : b < s1.heap.objs.size := by
        obtain ⟨_, z, _⟩ := pb
        exact Heap.lt_size z
      refine en_call (begins_tuple b jb.toArray) pb fun g he hi hk => wpAny_pyIter_enum he ?_
      refine ⟨_, _, _, _, G, rfl, I1.kept (t' := s1.toks) hk, turnE (sndT X.prog X.w s1.heap.objs.size b (Nat.ne_of_lt lb)) (Nat.succ_ne_self _) (Nat.ne_of_gt (Nat.lt_succ_of_lt lb)) (fun {Y pn τ J t} eK IY sq => ?_), ⟨⟨.none, he⟩, ⟨_, hi, rfl, rfl⟩⟩, fr, q⟩
      obtain ⟨jc, vc, pc, _⟩ := IY.tuple (by rw [eK]; exact sq)
      exact ⟨jc, vc, pc⟩
/-- a loop over it -/
theorem for_enT {sq : Hp → Prop} {ys : List V} {g : TG} {tb : TS} {D : Ends} {σ : L2.St} {H : Hp} (Pv : Nat → L2.St → Hp → Prop) (h0 : Pv 0 σ H) (hq : ∀ i σ H, Pv i σ H → sq H)
    (hs : ∀ (i : Nat) (y : V) (T : Addr) (σ : L2.St) (H : Hp), ys[i]? = some y → Pv i σ H → H T = none → g (.ref T) σ (upd H T (.tup [.int (i : Nat), y])) fun σ2 H2 => tb { D with nx := Pv (i + 1), ct := Pv (i + 1), bk := D.nx } σ2 H2)
    (hd : ∀ σ H, Pv ys.length σ H → D.nx σ H) :
    ∃ W : Nat → Nat → L2.St → Hp → Prop, (∃ m, W 0 m σ H) ∧ ∀ i m σ H, W i m σ H →
      ((ItE sq ys).stop i H ∧ D.nx σ H) ∨ ((ItE sq ys).go i H ∧ ∃ N : L2.St → Hp → Prop, (∀ σ' H', N σ' H' → ∃ m', m' < m ∧ W (i + 1) m' σ' H') ∧ ∀ v H', (ItE sq ys).yld i H v H' → g v σ H' fun σ2 H2 => tb { D with nx := N, ct := N, bk := D.nx } σ2 H2) := by
  refine ⟨fun i m σ H => m = ys.length - i ∧ i ≤ ys.length ∧ Pv i σ H, ⟨_, rfl, Nat.zero_le _, h0⟩, ?_⟩
  rintro i m σ H ⟨rfl, hi, p⟩
  by_cases lt : i < ys.length
  · refine .inr ⟨⟨hq i σ H p, lt⟩, Pv (i + 1), fun σ' G p' => ⟨ys.length - (i + 1), by omega, rfl, by omega, p'⟩, fun v G yl => ?_⟩
    obtain ⟨T, y, rfl, hT, rfl, e2⟩ := yl
    exact hs i y T σ H e2 p hT
  · have e : i = ys.length := by omega
    subst e
    exact .inl ⟨⟨hq _ σ H p, rfl⟩, hd σ H p⟩
end SupX

set_option Elab.async false
set_option linter.all false
set_option maxRecDepth 100000
/-! ### The mathematics: deeds, rows, entries, readings -/
namespace S16
open PySem PySem.Spec PyProof.Rows L2 K5
inductive Dd where
  | put (k w l : Int)
  | drop (k : Int)
  | add (k m : Int)
  | iff (k : Int) (w : Option Int)
def oV : Option Int → V
  | none => .non
  | some i => .int i
def Dd.word : Dd → Str
  | .put .. => "put"
  | .drop .. => "drop"
  | .add .. => "add"
  | .iff .. => "if"
def Dd.parts : Dd → List V
  | .put k w l => [.int k, .int w, .int l]
  | .drop k => [.int k]
  | .add k m => [.int k, .int m]
  | .iff k w => [.int k, oV w]
def Dd.vs (d : Dd) : List V := .str d.word :: d.parts
def Dd.key : Dd → Int
  | .put k _ _ => k
  | .drop k => k
  | .add k _ => k
  | .iff k _ => k
def inB (lo hi n : Int) : Bool := decide (lo ≤ n) && decide (n ≤ hi)
def Dd.ok : Dd → Bool
  | .put k w l => inB 0 31 k && (inB 0 999 w && inB 0 1000 l)
  | .drop k => inB 0 31 k
  | .add k m => inB 0 31 k && inB (-999) 999 m
  | .iff k none => inB 0 31 k
  | .iff k (some w) => inB 0 31 k && inB 0 999 w
/-- the place of the first deed that is none, from i on -/
def badFrom (i : Nat) : List Dd → Option Nat
  | [] => none
  | d :: ds => if i = 4 ∨ d.ok = false then some i else badFrom (i + 1) ds
def dealBad (ds : List Dd) : Option Nat := if ds = [] then some 0 else badFrom 0 ds
/-! rows: a key's worth and end -/
abbrev Rw := Int → Option (Int × Int)
def Rw.set (f : Rw) (k : Int) (x : Option (Int × Int)) : Rw := fun j => if j = k then x else f j
def shB (e m : Int) : Bool := decide (e = 0) || decide (m < e)
def seen (m : Int) (f : Rw) (k : Int) : Option Int := match f k with
  | none => none
  | some (w, e) => if shB e m = true then some w else none
def step (m : Int) (f : Rw) : Dd → Option Rw
  | .put k w l => some (f.set k (some (w, if l = 0 then 0 else m + l)))
  | .drop k => some (f.set k none)
  | .add k x => match f k with
    | none => none
    | some (w, e) => if shB e m = true ∧ inB 0 999 (w + x) = true then some (f.set k (some (w + x, e))) else none
  | .iff k w => if seen m f k = w then some f else none
def steps (m : Int) : Rw → List Dd → Option Rw
  | f, [] => some f
  | f, d :: ds => match step m f d with
    | none => none
    | some g => steps m g ds
/-! entries -/
inductive En where
  | deal (h : Int) (ds : List Dd)
  | tick (t : Int)
  | odd
inductive Er where
  | hand
  | key
  | entry
  | deal (p : Nat)
structure Tb where
  rows : Rw
  mom : Int
def Tb.new : Tb := ⟨fun _ => none, 0⟩
def En.bad (m : Int) : En → Option Er
  | .deal h ds => if inB 0 3 h = true then (match dealBad ds with | none => none | some p => some (.deal p)) else some .hand
  | .tick t => if inB (m + 1) 1000000 t = true then none else some .entry
  | .odd => some .entry
def Tb.next (s : Tb) : En → Tb
  | .deal _ ds => ⟨match steps s.mom s.rows ds with | none => s.rows | some g => g, s.mom⟩
  | .tick t => ⟨s.rows, t⟩
  | .odd => s
/-- the tables behind none, one, .. of the entries -/
def tbs (s : Tb) : List En → List Tb
  | [] => [s]
  | e :: es => s :: tbs (s.next e) es
def lastT (s : Tb) (es : List En) : Tb := es.foldl Tb.next s
/-- the first entry that can't be -/
def badE (s : Tb) : List En → Option Er
  | [] => none
  | e :: es => match e.bad s.mom with
    | some r => some r
    | none => badE (s.next e) es
structure Rd where
  hand : Int
  num : Int
  key : Int
  worth : Option Int
def Rd.vs (r : Rd) : List V := [.int r.hand, .int r.num, .int r.key, oV r.worth]
def Rd.bad (r : Rd) : Option Er := if inB 0 3 r.hand = true then (if inB 0 31 r.key = true then none else some .key) else some .hand
def badR : List Rd → Option Er
  | [] => none
  | r :: rs => match r.bad with
    | some e => some e
    | none => badR rs
def okW : Option Int → Bool
  | none => true
  | some w => inB 0 999 w
abbrev Ls := Int → Int
def Ls.set (l : Ls) (h n : Int) : Ls := fun j => if j = h then n else l j
def fits (T : List Tb) (l : Ls) (r : Rd) : Bool := inB (l r.hand) (T.length - 1) r.num && (match T[r.num.toNat]? with
  | none => false
  | some t => okW r.worth && decide (seen t.mom t.rows r.key = r.worth))
def dueFrom (T : List Tb) (l : Ls) (i : Nat) : List Rd → Option Nat
  | [] => none
  | r :: rs => if fits T l r = true then dueFrom T (l.set r.hand r.num) (i + 1) rs else some i
def due (T : List Tb) (rs : List Rd) : Option Nat := dueFrom T (fun _ => 0) 0 rs
theorem tbs_length (s : Tb) (es : List En) : (tbs s es).length = es.length + 1 := by
  induction es generalizing s with
  | nil => rfl
  | cons e es ih => simp [tbs, ih]
theorem tbs_snoc (s : Tb) (es : List En) (e : En) : tbs s (es ++ [e]) = tbs s es ++ [(lastT s es).next e] := by
  induction es generalizing s with
  | nil => rfl
  | cons a es ih => simp only [List.cons_append, tbs, ih, lastT, List.foldl_cons]
theorem lastT_snoc (s : Tb) (es : List En) (e : En) : lastT s (es ++ [e]) = (lastT s es).next e := by simp [lastT]
theorem tbs_at (s : Tb) (es : List En) (i : Nat) (h : i ≤ es.length) : (tbs s es)[i]? = some (lastT s (es.take i)) := by
  induction es generalizing s i with
  | nil =>
    have : i = 0 := by simpa using h
    subst this
    rfl
  | cons e es ih =>
    cases i with
    | zero => rfl
    | succ i =>
      simp only [tbs, List.getElem?_cons_succ, List.take_succ_cons, lastT, List.foldl_cons]
      exact ih _ _ (by simpa using h)
theorem badE_app {s : Tb} {es fs : List En} (h : badE s es = none) : badE s (es ++ fs) = badE (lastT s es) fs := by
  induction es generalizing s with
  | nil => rfl
  | cons e es ih =>
    simp only [badE] at h
    simp only [List.cons_append, badE, lastT, List.foldl_cons]
    cases q : e.bad s.mom with
    | some r => rw [q] at h; cases h
    | none =>
      rw [q] at h
      exact ih h
theorem badR_app {rs qs : List Rd} (h : badR rs = none) : badR (rs ++ qs) = badR qs := by
  induction rs with
  | nil => rfl
  | cons r rs ih =>
    simp only [badR] at h
    simp only [List.cons_append, badR]
    cases q : r.bad with
    | some e => rw [q] at h; cases h
    | none =>
      rw [q] at h
      exact ih h
theorem inB_t {lo hi n : Int} : inB lo hi n = true ↔ lo ≤ n ∧ n ≤ hi := by simp [inB]
theorem shB_t {e m : Int} : shB e m = true ↔ e = 0 ∨ m < e := by simp [shB]
end S16

set_option Elab.async false
set_option linter.all false
set_option maxRecDepth 100000
set_option maxHeartbeats 2000000
/-! An own exception class whose __init__ says super().__init__(f'..'), then self.f = p. -/
namespace SupX
open PySem PySem.Spec PyProof.Rows L2
/-- what the written part says of C's own __init__ at fI: its code, the cell of __class__ -/
structure InitAt (P : Program) (K : PySem.W.Frag) (C fI : Addr) (qual : Str) (st : Stmt) : Prop where
  ex : ∃ (oc : Value) (od : Option Addr) (kV doc pm : Value) (an : Option Addr) (cda cc : Addr) (ct : Value) (osl : Array (Option Value)) (ccl : Value) (cdd : Option Addr) (vs : Array Value) (ccs : Array (Option Value)) (file : Str) (tf : Tok) (cl : Value) (cld : Option Addr) (csl : Array (Option Value)),
    K.lookup fI = some ⟨oc, od, .func (PySem.W.fnX "__init__" qual (defArgs st) (defBody st) (defScope st) [(("__class__" : Str), cc)] .none kV doc pm an (.ref cda) ct), osl⟩ ∧ PySem.W.codeIn K (.ref cda) qual = true ∧
    K.lookup cda = some ⟨ccl, cdd, .fields vs, ccs⟩ ∧ vs[2]? = some (.str file tf) ∧ ((P.main.file : Str) == file) = true ∧ K.lookup cc = some ⟨cl, cld, .cell (some (.ref C)), csl⟩
  init : PySem.W.findIn K (.ref C) "__init__" = some (some (.ref fI))
  ty : PySem.W.typeIn K (.ref fI) = some (.type "function")
/-- what it says of the class -/
structure ClsAt (K : PySem.W.Frag) (mg : Str → Option Value) (C : Addr) (f : Str) : Prop where
  oex : OexC K C
  own : PySem.W.mroIn K C (.ref C) = some true
  up : PySem.W.ks_superIn K C C "__init__" = some (some (.builtin "ValueError.__init__"))
  ve : PySem.W.subIn K (.ref C) (.type "ValueError") = some true
  st : PySem.W.nsIn K PySem.cStatics "thirdparty.any" = some none
  no : PySem.W.findIn K (.ref C) f = some none
  sup : mg "super" = none
/-- the scope of such a def -/
structure Sco (x : Str) (sc : Scope) : Prop where
  kind : sc.kind = .function
  co : sc.isCoroutine = false
  gen : sc.isGenerator = false
  self : sc.names.lookup ("self" : Str) = some .local
  arg : sc.names.lookup x = some .local
  sup : sc.names.lookup ("super" : Str) = some .globalImplicit
  cls : sc.names.lookup ("__class__" : Str) = some .free
  only : ∀ y ∈ sc.names, y.2 ≠ .cell ∧ (y.2 = .free → y.1 = "__class__")
  ne : x ≠ ("self" : Str)
/-- the context of its body -/
def cx1 (P : Program) (w : World) (K : PySem.W.Frag) (mg : Str → Option Value) (base : Heap) (x qual : Str) (sc : Scope) (f : Addr) (cd : Value) (cc : Addr) (A : Around) (outer : List Env) (s : Shared) (H : Hp) (xe : Value → Shared → Prop) : Cx where
  prog := P
  w := w
  K := K
  mg := mg
  base := base
  A := A.deeper (PySem.W.ksEnv qual sc s.heap.objs.size f cd cc)
  N := [("self" : Str), x]
  s_0 := s
  H_0 := H
  env := PySem.W.ksEnv qual sc s.heap.objs.size f cd cc
  outer := outer
  stack := PySem.W.ksEnv qual sc s.heap.objs.size f cd cc :: outer
  ex := []
  fn := fun _ => false
  calm := true
  pn := []
  xe := xe
section
variable {P : Program} {w : World} {K : PySem.W.Frag} {mg : Str → Option Value} {base : Heap} {x qual : Str} {sc : Scope} {f cc : Addr} {cd : Value} {A : Around} {outer : List Env} {s : Shared} {H : Hp} {xe : Value → Shared → Prop} {k : Nat}
theorem inv1 (S : Sco x sc) (hr : Room k A) (e0 : Env0 P w K mg base A outer s H) {oc : Value} {od : Option Addr} {D : Addr} {osl : Array (Option Value)} (hcc : K.lookup cc = some ⟨oc, od, .cell (some (.ref D)), osl⟩) {h : Heap} {tk : Nat} {v1 v2 : V} {u1 u2 : Value} (r1 : RelV v1 u1) (r2 : RelV v2 u2)
    (hns : h.Ns s.heap.objs.size (fun y => ([("self" : Str), x].zip [u1, u2]).reverse.lookup y)) (hk : ∀ b o, s.heap.get? b = some o → h.get? b = some o) :
    Inv (cx1 P w K mg base x qual sc f cd cc A outer s H xe) [] [some v1, some v2] H { s with heap := h, toks := tk } := by
  have KX : K.In s.heap := e0.mod.kin.keeps fun b o e => (e0.bs b o e).1
  have lk1 : ∀ y c, ([(("__class__" : Str), cc)] : List (Str × Addr)).lookup y = some c → y = "__class__" ∧ c = cc := fun y c h => by
    by_cases e : y = "__class__"
    · subst e
      exact ⟨rfl, by simpa using h.symm⟩
    · have : (y == ("__class__" : Str)) = false := by simpa using e
      simp [List.lookup, this] at h
  have Hc : H cc = none := (e0.bs cc _ (e0.mod.kin _ _ hcc)).2
  have memN : ∀ {y : Str} {z : NameKind}, sc.names.lookup y = some z → (y, z) ∈ sc.names := fun {y z} e => PySem.mem_of_lookup e
  refine ⟨⟨e0.mod, S.kind, rfl, rfl, Nat.le_refl _, fun y z c h1 h2 => (lk1 y c h1).1.trans (lk1 z c h2).1.symm, fun y hy => ?_, fun y c h _ => Bool.noConfusion (show false = true from h), fun _ => hr.hd, Around.frames_deeper e0.frames, .inr ⟨rfl, rfl⟩, fun b z => (by cases z), e0.bs, e0.bsz, fun b _ _ z => (by cases z), fun b z => (by cases z), e0.funs, e0.frf⟩,
    rfl, e0.bare, Un.kept hk, ⟨_, hns, fun i y v h1 h2 h3 => ?_⟩, fun y c h => ?_, e0.hok.fresh (Nat.le_refl _), fun y c h => ?_, fun p hp => (by cases hp), e0.hok.kept hk, rfl⟩
  · rcases hy with hy | hy
    · exact absurd rfl (S.only _ (memN hy)).1
    · have e := (S.only _ (memN hy)).2 rfl
      exact ⟨cc, by show ([(("__class__" : Str), cc)] : List (Str × Addr)).lookup y = some cc; rw [show y = "__class__" from e]; rfl⟩
  · match i, h1, h2 with
    | 0, h1, h2 =>
      cases h1
      cases h2
      refine ⟨u1, r1, .inl ⟨S.self, ?_⟩⟩
      have ne : (("self" : Str) == x) = false := by simpa using (fun z => S.ne z.symm : ("self" : Str) ≠ x)
      simp [List.lookup, ne]
    | 1, h1, h2 =>
      cases h1
      cases h2
      refine ⟨u2, r2, .inl ⟨S.arg, ?_⟩⟩
      simp [List.lookup]
    | i + 2, h1, h2 => simp at h2
  · obtain ⟨rfl, rfl⟩ := lk1 y c h
    exact ⟨_, _, hk _ _ (KX _ _ hcc), rfl⟩
  · obtain ⟨rfl, rfl⟩ := lk1 y c h
    exact Hc
end
end SupX
namespace SupX
open PySem PySem.Spec PyProof.Rows L2
section
variable {X : Cx} {pins : List (Addr × Obj)} {σ : L2.St} {H : Hp} {s : Shared} {a C u : Addr}
/-- the bound ValueError.__init__, called: nothing of it is told -/
theorem mw_call {A : Around} {E : Value → Shared → Prop} {us : List Value} {Q : Value → Shared → Prop} (T : OexC X.K C) (I : Inv X pins σ H s) (hu : s.heap.get? u = some (PySem.W.kxs_mw "ValueError.__init__" a)) (e : H a = some (exo a C none)) (hz : us.length ≤ sizeLine)
    (h : ∀ s', Inv X pins σ H s' → Q .none s') : wpAny (model X.prog X.w) A (call (.ref u) us) Q E s := by
  obtain ⟨n0, q0, N0, bs0, bm0, sn0, su0, ab0, col0, dd0, j0, j1, j2, j3, j5, hK, hm⟩ := T.cls
  obtain ⟨t1, ho⟩ := exo_at I.hok e
  obtain ⟨hp, gs, dr, tk, os⟩ := s
  refine wpAny_call (codeAny_of_tree (by
    show wpAny _ A.in1 (callAny (.ref u) ⟨us, []⟩) _ _ _
    simp only [callAny]
    refine wpAny_bind (wpAny_load hu ?_)
    simp only [PySem.W.kxs_mw]
    refine PySem.W.KFB.if_so (by decide) ?_
    refine wpAny_bind (PySem.W.check_bound_init PySem.F.excBase_ValueError.toExcCallFacts (I.kIn _ _ hK) ho rfl (wpAny_bind (wpAny_pure (wpAny_pure ?_))))
    refine ⟨plainId_quiet PySem.F.excBase_ValueError.init.plain _, codeAny_builtin PySem.F.excBase_ValueError.initEntry ?_⟩
    refine PySem.W.exc_init_tree (t0 := t1) (cls := .ref C) (c2 := .none) (dv := none) (c3 := .none) (b4 := .bool false) ho hz fun h' k hx _ => ?_
    have J := I.write (x := a) (e := a) (t' := tk) (o := exo a C none) (by rw [e]; trivial) (.inl rfl) k ⟨_, hx⟩ (exo_ok hx)
    have same : upd H a (exo a C none) = H := funext fun b => by
      by_cases hb : b = a
      · rw [hb, upd_same, e]
      · exact upd_ne hb
    rw [same] at J
    exact h _ J))
end
/-- a number whose text is short -/
def Sm (v : Int) : Prop := v.natAbs.log2 < 1920 ∧ (toString v : Str).length ≤ 1000
/-- the text of the error -/
def tTxt : TE := fun σ H Q => ∃ v : Int, σ[1]? = some (some (.int v)) ∧ Sm v ∧ ∀ z : Str, Q (.str z) H
def spI (C : Addr) (f : Str) : Sp := fun vs H Q _ => ∃ (a : Addr) (v : Int), vs = [.ref a, .int v] ∧ Sm v ∧ H a = some (exo a C none) ∧ ∀ dx, H dx = none → dx ≠ a → Q .non (upd (upd H dx (exd dx [(f, .int v)])) a (exo a C (some dx)))
section
variable {P : Program} {w : World} {K : PySem.W.Frag} {mg : Str → Option Value} {base : Heap} {x f qual : Str} {st : Stmt} {C fI : Addr} {CX : CXT} {jv : List Expr} {p0 p1 p2 p3 p4 p5 p6 p7 p8 p9 : Pos}
theorem ok_init (M : InitAt P K C fI qual st) (T : ClsAt K mg C f) (S : Sco x (defScope st)) (hpar : ∃ ar, ((defArgs st).posonlyargs ++ (defArgs st).args).head? = some ar ∧ ar.arg = "self")
    (hbody : defBody st = [.Expr (.Call (.Attribute (.Call (.Name "super" p0) [] [] p1) "__init__" p2) [.JoinedStr jv p9] [] p3) p4, .Assign [.Attribute (.Name "self" p5) f p6] (.Name x p7) p8])
    (he : ∀ Y : Cx, Y.N = [("self" : Str), x] → Y.env.scope = defScope st → PE Y (.JoinedStr jv p9) tTxt)
    (hcall : ∀ env : Env, ∃ pl : Sem Bool, eval (.Call (.Attribute (.Call (.Name "super" p0) [] [] p1) "__init__" p2) [.JoinedStr jv p9] [] p3) env = (do
      let o0 ← attributeBase (.Call (.Name "super" p0) [] [] p1) "__init__" env (eval (.Call (.Name "super" p0) [] [] p1) env)
      standAt p2.atName
      let (g, first) ← holding [o0] (getMethod o0 "__init__" pl)
      callWith p3 g first (backTo p3 (starEach [.JoinedStr jv p9] env)) []))
    (htop : (P.main.scope.names.lookup ("super" : Str)).isSome = false) (hx : (x == ("__debug__" : Str)) = false) (hx2 : (x == ("__classdict__" : Str)) = false)
    (hbind : ∀ (kV doc pm : Value) (an : Option Addr) (cl : List (Str × Addr)) (cdv ct : Value) (us : List Value), us.length = 2 → bindArgs (PySem.W.fnX "__init__" qual (defArgs st) (defBody st) (defScope st) cl .none kV doc pm an cdv ct) ⟨us, []⟩ = pure ([("self" : Str), x].zip us)) :
    ∃ fd, FnOk P w K mg base CX 1 fI fd [("self" : Str), x] (spI C f) ∧ Binds K fd [("self" : Str), x] [] := by
  obtain ⟨oc, od, kV, doc, pm, an, cda, cc, ct, osl, ccl, cdd, vs0, ccs, file, tf, cl, cld, csl, lk, hcd, lc, hv2, hfile, lcc⟩ := M.ex
  refine ⟨PySem.W.fnX "__init__" qual (defArgs st) (defBody st) (defScope st) [(("__class__" : Str), cc)] .none kV doc pm an (.ref cda) ct, ⟨fun vs H Q E h => ?_, fun A outer s H args us vs Q E hr e0 hb r h => ?_⟩, fun s us X hl => ?_⟩
  · obtain ⟨a, v, rfl, _⟩ := h
    rfl
  · obtain ⟨a, v, rfl, hv, ea, k⟩ := h
    have KX : K.In s.heap := e0.mod.kin.keeps fun b o e => (e0.bs b o e).1
    obtain ⟨u1, u2, rfl⟩ : ∃ u1 u2, us = [u1, u2] := by
      cases r with
      | cons r1 r =>
        cases r with
        | cons r2 r =>
          cases r
          exact ⟨_, _, rfl⟩
    have r1 : RelV (.ref a) u1 := by cases r; assumption
    have r2 : RelV (.int v) u2 := by
      cases r with
      | cons _ r => cases r; assumption
    obtain rfl : u1 = Value.ref a := r1
    refine PySem.ks_codeAny_call_defAt (fd := PySem.W.fnX "__init__" qual (defArgs st) (defBody st) (defScope st) [(("__class__" : Str), cc)] .none kV doc pm an (.ref cda) ct) (binds := [("self" : Str), x].zip [Value.ref a, u2]) (body := defBody st) hr.depth (KX _ _ lk) rfl (e0.mod.nolimit.keeps fun b o e => (e0.bs b o e).1)
      (PySem.W.codeRec_of KX hcd) rfl hb (fun y hy => (S.only y hy).1) (fun y hy => ?_) (fun h₀ hns hk => ?_) S.co S.gen S.kind
    · have : y = (("self" : Str), Value.ref a) ∨ y = (x, u2) := by simpa using hy
      rcases this with rfl | rfl
      · exact S.self
      · exact S.arg
    · let xe : Value → Shared → Prop := fun e' s' => wpAny (model P w) (A.deeper (PySem.W.ksEnv qual (defScope st) s.heap.objs.size fI (.ref cda) cc)) (leaving (PySem.W.ksEnv qual (defScope st) s.heap.objs.size fI (.ref cda) cc) e') (fun _ s'' => CR CX outer P w H s Q E (.error e') s'') (fun e'' s'' => CR CX outer P w H s Q E (.error e'') s'') s'
      let X : Cx := cx1 P w K mg base x qual (defScope st) fI (.ref cda) cc A outer s H xe
      have I : Inv X [] [some (.ref a), some (.int v)] H { s with heap := h₀, toks := s.toks + ([("self" : Str), x].zip [Value.ref a, u2]).length } := inv1 S hr e0 lcc rfl r2 hns hk
      obtain ⟨ar, har, hself⟩ := hpar
      obtain ⟨n0, q0, N0, bs0, bm0, sn0, su0, ab0, col0, dd0, j0, j1, j2, j3, j5, hC, hm⟩ := T.oex.cls
      obtain ⟨cdC, hcd1, hcd2⟩ : ∃ cd, PySem.W.clsIn K C = some cd ∧ ∀ h : Heap, K.In h → ∃ oD, h.get? C = some oD ∧ oD.data = .cls cd :=
        ⟨_, by unfold PySem.W.clsIn; rw [hC] <;> rfl, fun h X => ⟨_, X _ _ hC, rfl⟩⟩
      obtain ⟨t1, ho⟩ := exo_at I.hok ea
      obtain ⟨oD, hD1, hD2⟩ := hcd2 _ I.kIn
      obtain ⟨mb, hb1, hb2⟩ := I.mod.blt
      have hup := T.up
      unfold PySem.W.ks_superIn at hup
      rw [hcd1] at hup
      show _root_.PySem.wpAt (model P w) (A.deeper X.env) (.func (defBody st) X.env) (execs (defBody st) X.env) _ _ _
      rw [hbody]
      obtain ⟨pl, hpl⟩ := hcall X.env
      refine PySem.ks_wpAt_execs_cons (PySem.ks_wpAt_Expr_any (PySem.ks_wpAt_MethodCall (PySem.ks_wpAt_super_base (ar := ar) S.sup S.cls (by decide) rfl (I.kIn _ _ lk) rfl har rfl (I.kIn _ _ lc) rfl hv2 hfile htop
        (PySem.W.ks_loadName_global S.kind S.sup (Calls.loadGlobal_builtin (I.mod.glob.keeps I.bk) T.sup (hb1.keeps I.bk) ((hb2 "super" (by decide)).trans (by decide +kernel)) ⟨rfl, wpAny_loadName_free S.kind S.cls rfl ⟨_, I.kIn _ _ lcc, rfl⟩ ?_⟩))) hpl) (by show interactive (PySem.W.ksEnv _ _ _ _ _ _) = false; unfold interactive; simp [Env.blockKind, S.kind]))
      rw [hself]
      refine wpAny_loadName_local (v := .ref a) S.kind S.self hns (by simp [List.lookup, (by simpa using (fun z => S.ne z.symm : ("self" : Str) ≠ x) : (("self" : Str) == x) = false)]) ?_
      refine ks_wpAny_isType_cls hD1 hD2 ⟨rfl, ks_wpAny_call_super hD1 hD2 ho rfl (fun c z => by cases z) (PySem.W.looks_mroIn I.kIn T.own) fun h1 e1 k1 => ?_⟩
      have I1 : Inv X [] [some (.ref a), some (.int v)] H ⟨h1, s.gens, s.drawn, s.toks + ([("self" : Str), x].zip [Value.ref a, u2]).length, s.os⟩ := I.kept (t' := _) k1
      obtain ⟨t2, ho1⟩ := exo_at I1.hok ea
      have at1 : PySem.W.InstAt h1 a { cls := .ref C, dict := none, data := .fields #[.ref t2, .none, .none, .none, .bool false, .none] } C none := ⟨ho1, rfl, rfl, trivial⟩
      refine PySem.W.kxs_getMethod PySem.W.kxs_ValueError e1 (PySem.W.looks_opaque I1.kIn T.st) (l₀ := cdC.mro) (fun A' Q' E' s' k' q' => wpAny_bind ((PySem.W.looks_clsIn I1.kIn hcd1) A' _ E' s' k' (wpAny_pure q'))) rfl I1.kIn hup (at1.type.andThen (PySem.W.looks_subIn I1.kIn T.ve)) (PySem.W.ks_ne I1.kIn at1 hcd1) (by decide) ?_
      have hu : (h1.push (PySem.W.kxs_mw "ValueError.__init__" a)).get? h1.objs.size = some (PySem.W.kxs_mw "ValueError.__init__" a) := Heap.get?_push_size _ rfl
      have I2 : Inv X [] [some (.ref a), some (.int v)] H ⟨h1.push (PySem.W.kxs_mw "ValueError.__init__" a), s.gens, s.drawn, s.toks + ([("self" : Str), x].zip [Value.ref a, u2]).length + 1, s.os⟩ := I1.kept (t' := _) fun b o e => Heap.get?_push_of_some _ e
      have fp := I1.fpOk (H' := H) (Nat.le_refl _) (I1.hok.fresh (Nat.le_refl _))
      have I3 : Inv X [(h1.objs.size, PySem.W.kxs_mw "ValueError.__init__" a)] [some (.ref a), some (.int v)] H ⟨h1.push (PySem.W.kxs_mw "ValueError.__init__" a), s.gens, s.drawn, s.toks + ([("self" : Str), x].zip [Value.ref a, u2]).length + 1, s.os⟩ := I2.pins_of fun p hp => by
        have e : p = (h1.objs.size, PySem.W.kxs_mw "ValueError.__init__" a) := by simpa using hp
        subst e
        exact ⟨hu, fp.1, fp.2.1, fp.2.2.1, fun v z => by cases z⟩
      have hargs := (pa_cons (he X rfl rfl) pa_nil (X := X)).run p3 _ _ _ H (fun vs G => G = H ∧ ∃ z : Str, vs = [.str z]) I3 ⟨v, rfl, hv, fun z => ⟨rfl, z, rfl⟩⟩
      show wpAny (model P w) (A.deeper X.env) (callWith p3 (.ref h1.objs.size) [] (backTo p3 (starEach [.JoinedStr jv p9] X.env)) []) _ _ _
      refine PySem.W.kxs_callWith (i := "ValueError.__init__") (x := a) rfl (Calls.evalArgs_plain (thn hargs fun us s3 ⟨ws, G, I4, r4, eG, z, ez⟩ => ?_))
      subst eG ez
      refine ⟨(I4.pin _ (List.mem_append_right _ List.mem_cons_self)).1, mw_call T.oex I4 (I4.pin _ (List.mem_append_right _ List.mem_cons_self)).1 ea (by show us.length ≤ sizeLine; rw [← Paired.length r4]; exact (by decide : 1 ≤ sizeLine)) fun s4 J => ?_⟩
      refine PySem.wpAt_of_wpAny (thn ((pss_one (ps_ost (pe_var (i := 0) rfl (.inl S.self)) (pe_var (i := 1) rfl (.inl S.arg) hx hx2))).run _ s4 _ _ { nx := fun _ G => Q .non G, rt := Q, bk := fun _ _ => False, ct := fun _ _ => False } J
        ⟨_, rfl, _, rfl, a, C, rfl, T.oex, T.no, .inl ⟨ea, fun dx n ne => k dx n ne⟩⟩) fun fl s5 q => ?_)
      match fl, q with
      | .next, ⟨σ', G, J5, q⟩ => exact ⟨V.non, G, J5.os, J5.bare, J5.base, J5.hok, rfl, q⟩
      | .ret u, ⟨v5, σ', G, J5, r5, q⟩ => exact ⟨v5, G, J5.os, J5.bare, J5.base, J5.hok, r5, q⟩
      | .brk, ⟨_, _, _, q⟩ => exact q.elim
      | .cont, ⟨_, _, _, q⟩ => exact q.elim
  · have hl2 : us.length = 2 := by rw [List.append_nil] at hl; exact hl
    rw [List.append_nil]
    exact BindsTo.of_eq (hbind _ _ _ _ _ _ _ us hl2)
end
end SupX

set_option Elab.async false
set_option linter.all false
set_option maxRecDepth 100000
set_option maxHeartbeats 2000000
namespace SupX
open PySem PySem.Spec PyProof.Rows L2
/-! ### a, .., *rest = a tuple: the star last -/
section
variable {prog : Program} {w : World} {A : Around} {E : Value → Shared → Prop} {s : Shared}
theorem star_items {l : Addr} {its : Array Value} {i : Nat} {Q : List Value → Shared → Prop} (ht : IsTup s.heap l its) (hh : A.handled = none) (hi : i ≤ its.size) (hz : its.size ≤ 1000)
    (hQ : ∀ (h' : Heap) (tk : Nat), (∀ b o, s.heap.get? b = some o → h'.get? b = some o) → Q (its.toList.take i ++ [.ref h'.objs.size] ++ []) { s with heap := h'.push { cls := .type "list", data := .seq (its.toList.drop i).toArray }, toks := tk }) :
    wpAny (model prog w) A (unpackItems (.ref l) (i + 1) (some i)) Q E s := by
  have ne : l ≠ s.heap.objs.size := by obtain ⟨o, e, _⟩ := ht; exact Nat.ne_of_lt (Heap.lt_size e)
  unfold unpackItems notIterableAtAll
  refine wpAny_bind (wpAny_bind (wpAny_specialOf ht.typeIs slot_tuple_iter.lookup (wpAny_pure ?_)))
  simp only [Bool.false_eq_true, if_false]
  refine wpAny_bind (wpAny_holding (iter_tuple ht (wpAny_bind (wpAny_holding (draw_tuple ne i 0 _ _ ⟨_, Heap.get?_push_size _ rfl, rfl, rfl⟩ (ht.push _) (by omega) fun h1 it1 sb1 => ?_)))))
  have t1 : IsTup h1 l its := (ht.push _).extBut sb1.extBut ne
  rw [Nat.zero_add] at it1
  have l1 : s.heap.objs.size < h1.objs.size := by obtain ⟨o, e, _⟩ := it1; exact Heap.lt_size e
  have l2 : l < h1.objs.size := by obtain ⟨o, e, _⟩ := t1; exact Heap.lt_size e
  have len1 : (its.toList.take i).length = i := by rw [List.length_take, Array.length_toList]; omega
  have len2 : (its.toList.drop i).length = its.size - i := by rw [List.length_drop, Array.length_toList]
  rw [List.drop_zero, if_neg (show ¬ ((its.toList.take i).length < i) by omega)]
  refine wpAny_bind (wpAny_holding (PySem.W.kun_collect (s := { s with heap := h1 }) (k := i) (T := "tuple_iterator") (.inr (.inr (.inr rfl))) (Walks.tuple (A := A.in1) hh s.heap.objs.size l ne its) (fun j u z => z.1.typeIs) hi ⟨it1, t1⟩ l1 l2 (fun h2 tk k2 => ?_) (by rw [sizeLine_eq]; omega)))
  have z0 : i + 1 - 1 - i = 0 := by omega
  rw [if_neg (show ¬ ((its.toList.drop i).length < i + 1 - 1 - i) by omega)]
  simp only [z0, Nat.sub_zero, List.take_length, List.drop_length]
  refine wpAny_bind (wpAny_newList (wpAny_pure (hQ h2 tk fun b o e => ?_)) (by rw [sizeLine_eq]; omega))
  exact k2 b o (Nat.ne_of_lt (Heap.lt_size e)) (sb1.extBut b o (Nat.ne_of_lt (Heap.lt_size e)) (Heap.get?_push_of_some _ e))
end
section
variable {X : Cx} {pos : Pos}
/-- (a, .., *rest), n ahead of the star -/
def gStar (K : PySem.W.Frag) (n : Nat) (t : TGs) : TG := fun v σ H Q => ∃ a xs, v = .ref a ∧ SqT K H a xs ∧ n ≤ xs.length ∧ xs.length ≤ 1000 ∧ ∀ D, H D = none → t (xs.take n ++ [.ref D] ++ []) σ (upd H D (.lst (xs.drop n))) Q
theorem pgs_star {e : Expr} {p : Pos} {t : TG} (h1 : PG X e t) (hs : (assignEach [.Starred e p] X.env).map (·.2) = [assign e X.env] := by rfl) : PGs X [.Starred e p] (gCons t gNil) := by
  refine ⟨fun pins s σ H vs us Q I r h => ?_⟩
  obtain ⟨v, vr, e1, h⟩ := h
  subst e1
  cases r with
  | cons r rr =>
    rw [hs]
    refine assignInOrder_cons (thn (h1.run pins s σ H _ _ _ I r h) fun _ s1 ⟨σ1, H1, I1, q1⟩ => ?_)
    exact (pgs_nil (X := X)).run pins s1 σ1 H1 _ _ Q I1 rr q1
theorem pg_star {es : List Expr} {k : Nat} {t : TGs} {n : Nat} (hc : X.calm = true) (h : PGs X es t) (hn : (assignEach es X.env).length = n + 1 := by rfl) (hst : (assignEach es X.env).findIdx? (·.1) = some n := by rfl) : PG X (.Tuple es k pos) (gStar X.K n t) := by
  refine ⟨fun pins s σ H v u Q I r hw => ?_⟩
  obtain ⟨a, xs, e1, hq, hl, hz, hw⟩ := hw
  subst e1
  cases r
  obtain ⟨its, rv, ht, _⟩ := I.tuple hq
  have el : xs.length = its.length := rv.length
  rw [assign_Tuple]
  refine wpAny_bind (wpAny_standAt ?_)
  unfold unpack
  rw [hn, hst]
  refine wpAny_bind (wpAny_holding (star_items ht (I.ok.hd hc) (by simp; omega) (by simp; omega) fun h' tk hk => ?_))
  have I1 : Inv X pins σ H { s with heap := h', toks := tk } := I.kept (t' := tk) hk
  have rd : Vals (xs.drop n) (its.drop n) := rv.drop n
  have I2 : Inv X pins σ (upd H h'.objs.size (.lst (xs.drop n))) { s with heap := h'.push { cls := .type "list", data := .seq (its.drop n).toArray }, toks := tk } :=
    I1.laid (t' := tk) (fun b o e => Heap.get?_push_of_some _ e) (Nat.le_refl _) (show ObjOk X.prog X.w _ _ _ (.lst (xs.drop n)) from ⟨by rw [List.length_drop, sizeLine_eq]; omega, its.drop n, 0, rd, Heap.get?_push_size _ rfl⟩)
  have e0 : its.toArray.toList = its := rfl
  show wpAny _ _ (assignInOrder _ (its.take n ++ [.ref h'.objs.size] ++ [])) _ _ { s with heap := h'.push { cls := .type "list", data := .seq (its.drop n).toArray }, toks := tk }
  exact h.run pins _ σ _ _ _ Q I2 (((rv.take n).append (.cons (show L2.RelV (V.ref h'.objs.size) (Value.ref h'.objs.size) from rfl) .nil)).append .nil) (hw _ (I1.hok.fresh (Nat.le_refl _)))
end
end SupX
namespace SupX
open PySem PySem.Spec PyProof.Rows L2
/-! ### raise C(e): C's own __init__ says super().__init__(f'..') and stores e -/
def tMkS (C : Addr) (f : Str) (te : TE) : L2.St → Hp → XK → Prop := fun σ H Q => te σ H fun y H1 => ∃ n : Int, y = .int n ∧ Sm n ∧ ∀ d, H1 d = none → Q (.ref C) (some d) (upd H1 d (.xd [(f, .int n)]))
theorem heap_back {H : Hp} {a d : Addr} {fs : List (Str × V)} {o1 o2 o3 : HO} (ha : H a = none) (ne : d ≠ a) : upd (del (upd (upd (upd H a o1) d o2) a o3) a) d (.xd fs) = upd H d (.xd fs) := funext fun b => by
  by_cases hd : b = d
  · rw [hd, upd_same, upd_same]
  · rw [upd_ne hd, upd_ne hd]
    by_cases hb : b = a
    · rw [hb, del_same, ha]
    · rw [del_ne hb, upd_ne hb, upd_ne hd, upd_ne hb]
theorem pmk_sup {X : Cx} {x x0 f qual : Str} {C fI : Addr} {fd : FuncData} {st : Stmt} {e : Expr} {te : TE} {p pos : Pos} (T : ClsAt X.K X.mg C f) (M : InitAt X.prog X.K C fI qual st) (F1 : FnOk X.prog X.w X.K X.mg X.base CX0 1 fI fd [("self" : Str), x0] (spI C f)) (hb : L2.Binds X.K fd [("self" : Str), x0] []) (hr : Room 2 X.A)
    (hg : Gl X x) (hm : X.mg x = some (.ref C)) (he : PE X e te) (hdb : (x == ("__debug__" : Str)) = false := by decide) (hst : starEach [e] X.env = (false, eval e X.env) :: starEach [] X.env := by rfl) (hpl : (backTo pos (starEach [] X.env)).any (·.1) = false := by rfl) :
    L2N.PMk X (.Call (.Name x p) [e] [] pos) (tMkS C f te) := by
  intro pins s σ H Q I h
  obtain ⟨n0, q0, N0, bs0, bm0, sn0, su0, ab0, col0, dd0, j0, j1, j2, j3, j5, hC, hbm⟩ := T.oex.cls
  refine wpAny_Call_Name_kw (ld_glob I hg hm (PySem.W.callWith_K (h₀ := X.base) I.ok.mod.kin T.oex.kC (thn ((pa_cons he pa_nil hst).run pos pins s σ H (fun vs H1 => match vs with | [y] => (∃ n : Int, y = .int n ∧ Sm n ∧ ∀ d, H1 d = none → Q (.ref C) (some d) (upd H1 d (.xd [(f, .int n)]))) | _ => False) I h) fun us s1 hq => ?_) hst hpl) hdb)
  obtain ⟨vs, H1, I1, r1, q0⟩ := hq
  obtain ⟨n, ev, hn, q1⟩ : ∃ n : Int, vs = [.int n] ∧ Sm n ∧ ∀ d, H1 d = none → Q (.ref C) (some d) (upd H1 d (.xd [(f, .int n)])) := by
    match vs, q0 with
    | [y], ⟨n, e, q⟩ => exact ⟨n, by rw [e], q⟩
  subst ev
  refine ⟨I1.kIn, ?_⟩
  show wpAny _ _ (call (.ref C) us) _ _ _
  obtain ⟨hp, g, dr, tk, os⟩ := s1
  have hus : us.length = 1 := by rw [← r1.length]; rfl
  have h1 : H1 (hp.objs.size + 1) = none := I1.hok.fresh (Nat.le_succ _)
  have grow : ∀ b o, hp.get? b = some o → ((hp.push (PySem.W.kdv_tup us)).push (PySem.HandSPX.excO C hp.objs.size)).get? b = some o := fun b o z => Heap.get?_push_of_some _ (Heap.get?_push_of_some _ z)
  have at1 : ((hp.push (PySem.W.kdv_tup us)).push (PySem.HandSPX.excO C hp.objs.size)).get? (hp.objs.size + 1) = some (PySem.HandSPX.excO C hp.objs.size) := by heap_get
  have I2 : Inv X pins σ (upd H1 (hp.objs.size + 1) (exo (hp.objs.size + 1) C none)) ⟨(hp.push (PySem.W.kdv_tup us)).push (PySem.HandSPX.excO C hp.objs.size), g, dr, tk, os⟩ := I1.laid (o := exo (hp.objs.size + 1) C none) (t' := tk) grow (Nat.le_succ _) (exo_ok at1)
  have r2 : Vals (V.ref (hp.objs.size + 1) :: [V.int n]) (Value.ref (hp.objs.size + 1) :: us) := .cons rfl r1
  have b2 := hb _ (Value.ref (hp.objs.size + 1) :: us) I2.kIn (by rw [List.append_nil, List.length_cons, hus]; rfl)
  rw [List.append_nil] at b2
  have big : us.length ≤ sizeLine := by rw [hus]; decide
  refine wpAny_call (PySem.HandSPX.call_own PySem.F.excBase_ValueError (fun Y => PySem.HandSPX.refsVE_contains Y bm0 hbm) (I1.kIn _ _ hC) (PySem.W.looks_findIn I1.kIn M.init) (fun o => PySem.W.bind_fn I1.kIn o M.ty) big
    (codeAny_mono (F1.run _ X.stack _ _ ⟨Value.ref (hp.objs.size + 1) :: us, []⟩ (Value.ref (hp.objs.size + 1) :: us) [V.ref (hp.objs.size + 1), V.int n]
      (fun v H2 => v = .non ∧ ∃ d, H1 d = none ∧ d ≠ hp.objs.size + 1 ∧ H2 = upd (upd (upd H1 (hp.objs.size + 1) (exo (hp.objs.size + 1) C none)) d (exd d [(f, .int n)])) (hp.objs.size + 1) (exo (hp.objs.size + 1) C (some d))) (fun _ _ _ => False) (hr.make C us []) (I2.env0.make C us []) b2 r2
      ⟨_, n, rfl, hn, upd_same, fun d hd ne => ⟨rfl, d, by rw [upd_ne ne] at hd; exact hd, ne, rfl⟩⟩) fun r s' hq => ?_))
  cases r with
  | error er => exact False.elim hq
  | ok fl =>
    cases fl with
    | ret u =>
      obtain ⟨v, H2, os2, bare2, un2, hok2, rv, ev, d, hd, ne, eH⟩ := hq
      subst ev eH
      obtain ⟨h2, g2, d2, t2, os'⟩ := s'
      obtain ⟨t0, G, J, kG, ge, hoe, _⟩ := mk_end0 (a := hp.objs.size + 1) (C := C) (d := d) (d2 := d2) (t2 := t2) (fs := [(f, .int n)]) I1 (Nat.le_succ _) grow un2 hok2 os2 bare2 upd_same (by rw [upd_ne ne, upd_same]) hd
      rw [heap_back h1 ne] at J
      have na : upd H1 d (.xd [(f, .int n)]) (hp.objs.size + 1) = none := by rw [upd_ne ne.symm]; exact h1
      exact ⟨rv, hp.objs.size + 1, _, _, ⟨G, g2, d2, t2, os'⟩, _, .ref C, some d, rfl, J, kG, ge, hoe, ⟨rfl, rfl, fun vs hv => (by cases hv; rfl)⟩, rfl, rfl, na, rfl, bare2, raises_own T.oex.exC T.oex.tyC, q1 d hd⟩
    | next => exact False.elim hq
    | brk => exact False.elim hq
    | cont => exact False.elim hq
end SupX

set_option Elab.async false
set_option linter.all false
set_option maxRecDepth 100000
set_option maxHeartbeats 2000000
/-! ### 7. A lambda that may raise, handed to a def that catches it: the exceptions' contexts are None -/
namespace K5
open PySem PySem.Spec PyProof.Rows L2 LamX
/-- what is wanted of an exception that leaves the lambda -/
def lamXe (X : Cx) (Ar : Around) (outer : List Env) (s : Shared) (H : Hp) (E : XK) (scope : Scope) (f c' : Addr) : Value → Shared → Prop := fun e s' =>
  wpAny (model X.prog X.w) (Ar.deeper (lamEnv X scope s.heap.objs.size f c')) (leaving (lamEnv X scope s.heap.objs.size f c') e) (fun _ t => L2N.CX X.prog X.w outer H s E e t) (fun e' t => L2N.CX X.prog X.w outer H s E e' t) s'
/-- the context of the lambda's body -/
abbrev lamN (X : Cx) (Ar : Around) (outer : List Env) (s : Shared) (H : Hp) (E : XK) (scope : Scope) (f c' : Addr) : Cx := (lamCx X Ar outer s H E scope f c').wish (lamXe X Ar outer s H E scope f c')
section
variable {X : Cx} {pins : List (Addr × Obj)} {σ : L2.St} {H HZ : Hp} {s s1 : Shared}
abbrev cxG (X : Cx) (Ng : List Str) (qg : Str) (sg : Scope) (g : Addr) (cdg : Value) (s : Shared) (H : Hp) : Cx := cxOf C8.CX0 X.prog X.w X.K X.mg X.base Ng qg sg g cdg X.A X.stack s H C8.E0
/-- x(), within the def that got the lambda -/
theorem actN {Ng : List Str} {qg : Str} {sg : Scope} {g f c' : Addr} {cdg pm ctv : Value} {params : Arguments} {body : Expr} {scope : Scope} {k i : Nat} {a : Str} {pn : List (Addr × Obj)} {xe : Value → Shared → Prop} {W : WX} {E : XK} {tb : TE} {p1 p2 : Pos}
    (I : Inv X pins σ H s) (Ls : LamS X.env.scope scope) (hf : s.heap.get? f = some (PySem.W.kla_obj "<lambda>" (X.env.qual ++ "<lambda>") params body scope (cloFrom X.env.cells scope.names []) pm c' ctv)) (hfn : H f = none) (hfr : f ∉ frs X.stack)
    (hb0 : bindArgs (PySem.W.kla_fn "<lambda>" (X.env.qual ++ "<lambda>") params body scope (cloFrom X.env.cells scope.names []) pm (.ref c') ctv) ⟨[], []⟩ = pure [])
    (tk : L2N.Takes ((cxG X Ng qg sg g cdg s H).tr pn xe) W) (hW : ∀ cls d τ G, E cls d G → W cls d τ G) (hr : Room (k + 1) (X.A.deeper (envOfC qg sg s.heap.objs.size g cdg)))
    (hbody : ∀ (Ar : Around) (outer : List Env) (t : Shared) (G : Hp), Room k (Ar.deeper (lamEnv X scope t.heap.objs.size f c')) → PE (lamN X Ar outer t G E scope f c') body tb)
    (hN : Ng[i]? = some a) (hv : Vis sg a) (hd : (a == ("__debug__" : Str)) = false := by decide) (hcd : (a == ("__classdict__" : Str)) = false := by decide) :
    PE ((cxG X Ng qg sg g cdg s H).tr pn xe) (.Call (.Name a p1) [] [] p2) (fun τ G Q => τ[i]? = some (some (.ref f)) ∧ G c' = some (CodeO c' (X.env.qual ++ "<lambda>")) ∧ tb σ G Q) := by
  refine ⟨fun pz sz τ G Q IZ ⟨hs, hc, ht⟩ => wpAny_Call_Name_kw (thn ((pe_var (pos := p1) (i := i) hN hv hd hcd).run pz sz τ G (fun v J => v = .ref f ∧ J = G) IZ ⟨.ref f, hs, rfl, rfl⟩) fun u s1 ⟨v, J, I1, r1, ev, eJ⟩ => ?_)⟩
  subst ev eJ
  cases (show u = Value.ref f from r1)
  have of1 : s1.heap.get? f = some _ := I1.base.keep f _ hf hfn hfr nofun
  refine PySem.W.callWith_F0 ⟨_, _, _, _, of1⟩ ?_
  obtain ⟨⟨oc, vs, t, hoc, hdc, hvc⟩, _, _⟩ := I1.hok c' _ hc
  have key : codeAny (model X.prog X.w) (X.A.deeper (envOfC qg sg s.heap.objs.size g cdg)) (.call (.ref f) ⟨[], []⟩) (CR (L2N.CX X.prog X.w) (envOfC qg sg s.heap.objs.size g cdg :: X.stack) X.prog X.w J s1 Q E) s1 := by
    refine PySem.W.kla_callFunE hr.depth of1 rfl Ls.co Ls.gen rfl ⟨c', oc, vs, t, rfl, hoc, hdc, hvc⟩ ?_
    rw [hb0]
    refine wpAny_pure (wpAny_newFunctionEnv (fun y hy => (Ls.own y hy).2) (fun y hy => absurd hy (by simp)) (fun h₁ hns hsb => ⟨I1.nolimit.fresh _ hsb, ?_⟩) Ls.kind)
    have kp : ∀ b o, s1.heap.get? b = some o → h₁.get? b = some o := fun b o e => hsb.extBut b o (Nat.ne_of_lt (Heap.lt_size e)) (Heap.get?_push_of_some _ e)
    have J0 := lam_start2 (E := E) (tk := s1.toks + ([] : List (Str × Value)).length) (f := f) (c' := c') I Ls I1.env0 hr.hd (show Un (frs X.stack) [] H J s.heap s1.heap from I1.base) hns kp
    have J1 : Inv (lamN X (X.A.deeper (envOfC qg sg s.heap.objs.size g cdg)) (envOfC qg sg s.heap.objs.size g cdg :: X.stack) s1 J E scope f c') [] σ J _ := J0.wish _
    show codeAny _ _ (.expr body (lamEnv X scope s1.heap.objs.size f c')) _ _
    refine PySem.W.kla_codeExpr (wpAny_mono ((hbody _ _ s1 J (hr.deeper _)).run [] _ _ J Q J1 ht) (fun v s' ⟨w', G', J', rv, q⟩ => ?_) fun e s' hq => hq)
    exact ⟨w', G', J'.os, J'.bare, J'.base, J'.hok, rv, q⟩
  refine wpAny_call (codeAny_mono key fun r s' hq => ?_)
  match r, hq with
  | .error e, hq => exact L2N.passes_call tk hW pz τ J s1 e s' I1 hq
  | .ok (.ret u), hq => exact I1.after hq
  | .ok .next, hq => exact False.elim hq
  | .ok .brk, hq => exact False.elim hq
  | .ok .cont, hq => exact False.elim hq
end
/-- the def at g, called with a lambda, makes TT of the lambda's reading -/
def GivesN (X : Cx) (Ng : List Str) (x : Str) (sg : Scope) (g : Addr) (cdg : Value) (bg : List Stmt) (a q : Str) (TT : (XK → Hp → VK → Prop) → Hp → VK → Prop) : Prop :=
  ∀ (f c' : Addr) (s : Shared) (H : Hp) (Q : VK) (tl : XK → Hp → VK → Prop), Room 3 (X.A.deeper (envOfC x sg s.heap.objs.size g cdg)) →
    (∀ (W : WX) (pn : List (Addr × Obj)) (xe : Value → Shared → Prop) (E : XK) (p1 p2 : Pos), L2N.Takes ((cxG X Ng x sg g cdg s H).tr pn xe) W → (∀ cls d τ G, E cls d G → W cls d τ G) →
      PE ((cxG X Ng x sg g cdg s H).tr pn xe) (.Call (.Name a p1) [] [] p2) (fun τ G Q => τ[0]? = some (some (.ref f)) ∧ G c' = some (CodeO c' q) ∧ tl E G Q)) →
    H c' = some (CodeO c' q) → TT tl H Q →
    ∃ t, PSs (cxG X Ng x sg g cdg s H).nox bg t ∧ t { nx := fun _ G => Q .non G, rt := Q } (L2.start Ng [.ref f]) H
def tLamN (T : List (Addr × Str)) (TT : (XK → Hp → VK → Prop) → Hp → VK → Prop) (t : XK → TE) : TE := fun σ H Q => Tabs T H ∧ ∀ G, ExtN H G → Tabs T G → TT (fun E J R => t E σ J R) G Q
section
variable {X : Cx}
/-- x(lambda: body) -/
theorem lamcallN {T : List (Addr × Str)} {TT : (XK → Hp → VK → Prop) → Hp → VK → Prop} {x a : Str} {g c P : Addr} {k : Nat} {pg : Arguments} {bg : List Stmt} {sg : Scope} {dV kV doc pm cdv ct oc : Value} {an od : Option Addr} {osl : Array (Option Value)} {Ng : List Str}
    {params : Arguments} {body : Expr} {scope : Scope} {t : XK → TE} {p lpos pos : Pos} (hg : Gl X x) (hm : X.mg x = some (.ref g)) (hk : PySem.W.keepIn X.K (.ref g) = true)
    (lk : X.K.lookup g = some ⟨oc, od, .func (PySem.W.fnOf x x pg bg sg dV kV doc pm an cdv ct), osl⟩) (hcg : PySem.W.codeIn X.K cdv x = true) (hb : L2.Binds X.K (PySem.W.fnOf x x pg bg sg dV kV doc pm an cdv ct) [a] []) (Sg : FnScope Ng [a] sg) (hNg : Ng[0]? = some a) (hva : Vis sg a)
    (hG : GivesN X Ng x sg g cdv bg a (X.env.qual ++ "<lambda>") TT) (k3 : 2 ≤ k)
    (TB : TabB X.base X.mg c P) (hcode : X.env.code = .ref c) (hmT : (P, X.env.qual ++ "<lambda>") ∈ T) (hu : ∀ p ∈ T, p.1 = P → p.2 = X.env.qual ++ "<lambda>") (hr : Room (k + 2) X.A) (Ls : LamS X.env.scope scope) (hdef : defaultsOf params X.env = ([], []))
    (hbind : ∀ (q : Str) (cl : List (Str × Addr)) (pm cv ctv : Value), bindArgs (PySem.W.kla_fn "<lambda>" q params body scope cl pm cv ctv) ⟨[], []⟩ = pure [])
    (hbody : ∀ (Ar : Around) (outer : List Env) (s : Shared) (H : Hp) (E : XK) (f c' : Addr), Room k (Ar.deeper (lamEnv X scope s.heap.objs.size f c')) → PE (lamN X Ar outer s H E scope f c') body (t E))
    (hdb : (x == ("__debug__" : Str)) = false := by decide) (hd : (a == ("__debug__" : Str)) = false := by decide) (hcd : (a == ("__classdict__" : Str)) = false := by decide) :
    PE X (.Call (.Name x p) [.Lambda params body scope lpos] [] pos) (tLamN T TT t) := by
  refine ⟨fun pins s σ H Q I ⟨hT, h⟩ => wpAny_Call_Name_kw (ld_glob I hg hm (PySem.W.callWith_K (h₀ := X.base) I.ok.mod.kin hk ?_ (by rfl) (by rfl)) hdb)⟩
  show wpAny _ _ (spliced ((false, eval (.Lambda params body scope lpos) X.env) :: backTo pos (starEach [] X.env))) _ _ s
  refine Calls.spliced_cons (lam_make2 I TB hcode hmT hu hT hdef (Ls.has I.ok) fun f c' pm' ctv G s1 I1 eN T1 hf hfn hfr hco => Calls.spliced_nil ⟨I1.kIn, ?_⟩)
  have key : codeAny (model X.prog X.w) X.A (.call (.ref g) ⟨[.ref f], []⟩) (CR C8.CX0 X.stack X.prog X.w G s1 Q C8.E0) s1 := by
    refine run_ofS (N := Ng) (ps := [a]) (us := [.ref f]) (vs := [.ref f]) lk hcg Sg hr I1.env0 (hb s1 [.ref f] I1.kIn rfl) (.cons rfl .nil) rfl fun hr2 => ?_
    obtain ⟨u, hu1, hu2⟩ := hG f c' s1 G Q (fun E J R => t E σ J R) (hr2.mono (by omega)) (fun W pn xe E p1 p2 tk hW => actN (i := 0) I1 Ls hf hfn hfr (hbind _ _ _ _ _) tk hW hr2 (fun Ar outer s H q => hbody Ar outer s H E f c' q) hNg hva hd hcd) hco (h G eN T1)
    exact ⟨u, hu1.nox, hu2⟩
  refine wpAny_call (codeAny_mono key fun r s' hq => ?_)
  match r, hq with
  | .error e, hq => exact (show False from hq).elim
  | .ok (.ret u), hq => exact I1.after hq
  | .ok .next, hq => exact False.elim hq
  | .ok .brk, hq => exact False.elim hq
  | .ok .cont, hq => exact False.elim hq
end
end K5

set_option Elab.async false
set_option linter.all false
set_option maxRecDepth 100000
namespace S16
open PySem PySem.Spec PyProof.Rows L2 LamX K5 SupX
def top (i : Nat) : Stmt := PySem.Challenge.pw_stillcopy_k16_readings_judged.main.body.getD i (.Pass ⟨0, 0, 0, 0⟩)
abbrev s_within : Stmt := top 20
abbrev s_check_hand : Stmt := top 23
abbrev s_check_key : Stmt := top 24
abbrev s_is_deed : Stmt := top 25
abbrev s_check_deal : Stmt := top 26
abbrev s_is_shown : Stmt := top 27
abbrev s_shown_worth : Stmt := top 28
abbrev s_put_row : Stmt := top 29
abbrev s_drop_row : Stmt := top 30
abbrev s_add_to_row : Stmt := top 31
abbrev s_does_show : Stmt := top 32
abbrev s_rows_behind : Stmt := top 34
abbrev s_check_entry : Stmt := top 36
abbrev s_tables_behind : Stmt := top 37
abbrev s_shows : Stmt := top 38
abbrev s_judge : Stmt := top 39
abbrev s_begun : Stmt := top 41
abbrev s_take : Stmt := top 42
abbrev s_alike : Stmt := top 43
abbrev s_class : Stmt := top 44
abbrev s_refused : Stmt := top 45
abbrev s_all : Stmt := top 46
abbrev s_store : Stmt := top 47
abbrev s_again : Stmt := top 48
abbrev s_seen : Stmt := top 49
abbrev s_tried : Stmt := top 50
abbrev s_deal : Stmt := top 51
abbrev s_whole : Stmt := top 52
abbrev s_deed : Stmt := top 53
abbrev s_drawn : Stmt := top 54
abbrev s_entries : Stmt := top 55
abbrev s_readings : Stmt := top 56
abbrev s_due : Stmt := top 57
abbrev s_odd : Stmt := top 58
abbrev s_law : Stmt := top 59
abbrev s_BadDeal___init__ : Stmt := inClass (top 2) 0
abbrev s_Behind___init__ : Stmt := inClass (top 9) 0
abbrev s_BadText___init__ : Stmt := inClass (top 12) 0
/-- a def of the module; its function object's code is at c -/
structure Df (K : PySem.W.Frag) (mg : Str → Option Value) (x : Str) (st : Stmt) (f : Addr) : Prop where
  fn : ∃ fd, Fun K x x st f fd
  at_ : mg x = some (.ref f)
theorem Df.kp {K : PySem.W.Frag} {mg : Str → Option Value} {x : Str} {st : Stmt} {f : Addr} (d : Df K mg x st f) : PySem.W.keepIn K (.ref f) = true := by
  obtain ⟨_, F⟩ := d.fn
  exact F.kp
/-- a function object whose code object is known -/
structure FnC (K : PySem.W.Frag) (x qual : Str) (st : Stmt) (f c : Addr) : Prop where
  ex : ∃ (oc : Value) (od : Option Addr) (kV doc pm : Value) (an : Option Addr) (ct : Value) (osl : Array (Option Value)), K.lookup f = some ⟨oc, od, .func (PySem.W.fnOf x qual (defArgs st) (defBody st) (defScope st) .none kV doc pm an (.ref c) ct), osl⟩ ∧ PySem.W.codeIn K (.ref c) qual = true
  kp : PySem.W.keepIn K (.ref f) = true
theorem FnC.fn {K : PySem.W.Frag} {x qual : Str} {st : Stmt} {f c : Addr} (d : FnC K x qual st f c) : ∃ fd, Fun K x qual st f fd := by
  obtain ⟨oc, od, kV, doc, pm, an, ct, osl, lk, hcd⟩ := d.ex
  exact ⟨_, fun_mk lk hcd d.kp⟩
/-- a method of the class at C -/
structure Md (K : PySem.W.Frag) (C : Addr) (m qual : Str) (st : Stmt) (f : Addr) : Prop where
  fn : ∃ fd, Fun K m qual st f fd
  me : Meth K C m f
/-- an exception class of the program, without an __init__ of its own -/
structure Xc (K : PySem.W.Frag) (mg : Str → Option Value) (x : Str) (C : Addr) : Prop where
  at_ : mg x = some (.ref C)
  ex : PySem.W.excIn K C [.type "ValueError", .type "Exception", .type "BaseException", .type "object"] "ValueError.__new__" = true
  kp : PySem.W.keepIn K (.ref C) = true
  sb : PySem.W.subIn K (.ref C) (.type "BaseException") = some true
  ty : PySem.W.typeIn K (.ref C) = some (.type "type")
/-- the addresses, by places in the top (and in a class) -/
structure Ad where
  d : Nat → Addr
  c : Nat → Addr
  m : Nat → Nat → Addr
  co : Nat → Nat → Addr
structure Txt (K : PySem.W.Frag) (mg : Str → Option Value) (A : Ad) : Prop where
  within : Df K mg "within" s_within (A.d 20)
  check_hand : Df K mg "check_hand" s_check_hand (A.d 23)
  check_key : Df K mg "check_key" s_check_key (A.d 24)
  is_deed : Df K mg "is_deed" s_is_deed (A.d 25)
  check_deal : Df K mg "check_deal" s_check_deal (A.d 26)
  is_shown : Df K mg "is_shown" s_is_shown (A.d 27)
  shown_worth : Df K mg "shown_worth" s_shown_worth (A.d 28)
  put_row : Df K mg "put_row" s_put_row (A.d 29)
  drop_row : Df K mg "drop_row" s_drop_row (A.d 30)
  add_to_row : Df K mg "add_to_row" s_add_to_row (A.d 31)
  does_show : Df K mg "does_show" s_does_show (A.d 32)
  rows_behind : Df K mg "rows_behind" s_rows_behind (A.d 34)
  check_entry : Df K mg "check_entry" s_check_entry (A.d 36)
  tables_behind : Df K mg "tables_behind" s_tables_behind (A.d 37)
  shows : Df K mg "shows" s_shows (A.d 38)
  judge : Df K mg "judge" s_judge (A.d 39)
  begun : Df K mg "_law_begun" s_begun (A.d 41)
  take : Df K mg "_law_take" s_take (A.d 42)
  alike : Df K mg "_law_alike" s_alike (A.d 43)
  class_ : Df K mg "_law_class" s_class (A.d 44)
  refused : Df K mg "_law_refused" s_refused (A.d 45)
  lall : Df K mg "_law_all" s_all (A.d 46)
  store : Df K mg "_law_store" s_store (A.d 47)
  again : Df K mg "_law_again" s_again (A.d 48)
  seen : Df K mg "_law_seen" s_seen (A.d 49)
  tried : Df K mg "_law_tried" s_tried (A.d 50)
  deal : Df K mg "_law_deal" s_deal (A.d 51)
  whole : Df K mg "_law_whole" s_whole (A.d 52)
  deed : Df K mg "_law_deed" s_deed (A.d 53)
  drawn : Df K mg "_law_drawn" s_drawn (A.d 54)
  entries : Df K mg "_law_entries" s_entries (A.d 55)
  readings : Df K mg "_law_readings" s_readings (A.d 56)
  due : Df K mg "_law_due" s_due (A.d 57)
  odd : Df K mg "_law_odd" s_odd (A.d 58)
  law : Df K mg "law" s_law (A.d 59)
  C_law : FnC K "law" "law" s_law (A.d 59) (A.co 59 0)
  c_StillError : mg "StillError" = some (.ref (A.c 1))
  c_BadDeal : mg "BadDeal" = some (.ref (A.c 2))
  x_BadHand : Xc K mg "BadHand" (A.c 3)
  x_BadLetter : Xc K mg "BadLetter" (A.c 4)
  x_BadTime : Xc K mg "BadTime" (A.c 5)
  x_BadKey : Xc K mg "BadKey" (A.c 6)
  x_BadHouse : Xc K mg "BadHouse" (A.c 7)
  x_NoCopy : Xc K mg "NoCopy" (A.c 8)
  c_Behind : mg "Behind" = some (.ref (A.c 9))
  x_BadBlock : Xc K mg "BadBlock" (A.c 10)
  x_BadEntry : Xc K mg "BadEntry" (A.c 11)
  c_BadText : mg "BadText" = some (.ref (A.c 12))
  x_Stopped : Xc K mg "Stopped" (A.c 13)
  k_LAST_KEY : ∃ t, mg "LAST_KEY" = some (.int 31 t)
  k_LAST_HAND : ∃ t, mg "LAST_HAND" = some (.int 3 t)
  k_LAST_WORTH : ∃ t, mg "LAST_WORTH" = some (.int 999 t)
  k_LAST_MOMENT : ∃ t, mg "LAST_MOMENT" = some (.int 1000000 t)
  k_MOST_DEEDS : ∃ t, mg "MOST_DEEDS" = some (.int 4 t)
  ValueError : mg "ValueError" = none
  all : mg "all" = none
  bool : mg "bool" = none
  dict : mg "dict" = none
  enumerate : mg "enumerate" = none
  int : mg "int" = none
  isinstance : mg "isinstance" = none
  len : mg "len" = none
  list : mg "list" = none
  max : mg "max" = none
  min : mg "min" = none
  range : mg "range" = none
  sorted : mg "sorted" = none
  str : mg "str" = none
  tuple : mg "tuple" = none
  zip : mg "zip" = none
end S16

set_option Elab.async false
set_option linter.all false
set_option maxRecDepth 100000
set_option maxHeartbeats 1000000
/-! ### What stands in the heap -/
namespace S16
open PySem PySem.Spec PyProof.Rows L2 K5 SupX
theorem paired_at {α β : Type} {R : α → β → Prop} {xs : List α} {ys : List β} (h : Paired R xs ys) {i : Nat} {x : α} (e : xs[i]? = some x) : ∃ y, ys[i]? = some y ∧ R x y := by
  induction h generalizing i with
  | nil => cases e
  | cons r _ ih =>
    cases i with
    | zero =>
      cases e
      exact ⟨_, rfl, r⟩
    | succ i => exact ih e
theorem paired_to {α β : Type} {R : α → β → Prop} {xs : List α} {ys : List β} (h : Paired R xs ys) {i : Nat} {y : β} (e : ys[i]? = some y) : ∃ x, xs[i]? = some x ∧ R x y := by
  induction h generalizing i with
  | nil => cases e
  | cons r _ ih =>
    cases i with
    | zero =>
      cases e
      exact ⟨_, rfl, r⟩
    | succ i => exact ih e
theorem paired_take {α β : Type} {R : α → β → Prop} {xs : List α} {ys : List β} (h : Paired R xs ys) (n : Nat) : Paired R (xs.take n) (ys.take n) := by
  induction h generalizing n with
  | nil => cases n <;> exact .nil
  | cons r _ ih =>
    cases n with
    | zero => exact .nil
    | succ n => exact .cons r (ih n)
theorem paired_drop {α β : Type} {R : α → β → Prop} {xs : List α} {ys : List β} (h : Paired R xs ys) (n : Nat) : Paired R (xs.drop n) (ys.drop n) := by
  induction h generalizing n with
  | nil => cases n <;> exact .nil
  | cons r t ih =>
    cases n with
    | zero => exact .cons r t
    | succ n => exact ih n
theorem paired_app {α β : Type} {R : α → β → Prop} {xs xs2 : List α} {ys ys2 : List β} (h : Paired R xs ys) (h2 : Paired R xs2 ys2) : Paired R (xs ++ xs2) (ys ++ ys2) := by
  induction h with
  | nil => exact h2
  | cons r _ ih => exact .cons r ih
theorem kp_fresh {F F' : Addr → Prop} {H G : Hp} (k : Kp F H G) (n : ∀ b, F b → H b = none) : Kp F' H G := fun b o e _ => k b o e fun _ z => by rw [n b z] at e; cases e
theorem take_snoc {α : Type} {xs : List α} {i : Nat} {x : α} (h : xs[i]? = some x) : xs.take (i + 1) = xs.take i ++ [x] := by
  rw [List.take_succ, h]
  rfl
def DdAt (H : Hp) (v : V) (d : Dd) : Prop := ∃ a, v = .ref a ∧ H a = some (.tup d.vs)
def DsAt (H : Hp) (v : V) (ds : List Dd) : Prop := ∃ a xs, v = .ref a ∧ H a = some (.tup xs) ∧ Paired (DdAt H) xs ds ∧ ds.length ≤ 1000
def RwAt (H : Hp) (a : Addr) (f : Rw) (n : Nat) : Prop := ∃ kvs, H a = some (.dK kvs) ∧ kvs.length ≤ n ∧ ∀ k : Int, match f k with
  | none => valV kvs (.inl k : Key) = none
  | some (w, e) => ∃ t, valV kvs (.inl k : Key) = some (.ref t) ∧ H t = some (.tup [.int w, .int e])
def EnAt (H : Hp) (v : V) : En → Prop
  | .deal h ds => ∃ a dv, v = .ref a ∧ H a = some (.tup [.str "deal", .int h, dv]) ∧ DsAt H dv ds
  | .tick t => ∃ a, v = .ref a ∧ H a = some (.tup [.str "tick", .int t])
  | .odd => ∃ a xs, v = .ref a ∧ H a = some (.tup xs) ∧ (xs = [] ∨ xs = [.str "tick"] ∨ ∃ dv ds, xs = [.str "Deal", .int 0, dv] ∧ DsAt H dv ds)
def RdAt (H : Hp) (v : V) (r : Rd) : Prop := ∃ a, v = .ref a ∧ H a = some (.tup r.vs)
section
variable {F : Addr → Prop} {H G : Hp}
theorem DdAt.kt (k : Kt F H G) {v : V} {d : Dd} (h : DdAt H v d) : DdAt G v d := let ⟨a, e, q⟩ := h; ⟨a, e, k.tup q⟩
theorem DsAt.kt (k : Kt F H G) {v : V} {ds : List Dd} (h : DsAt H v ds) : DsAt G v ds := let ⟨a, xs, e, q, p, l⟩ := h; ⟨a, xs, e, k.tup q, p.mono fun _ _ z => z.kt k, l⟩
theorem RwAt.kt (k : Kt F H G) {a : Addr} {f : Rw} {n : Nat} (h : RwAt H a f n) (nf : ¬ F a) : RwAt G a f n := by
  obtain ⟨kvs, e, l, q⟩ := h
  refine ⟨kvs, k.dK e nf, l, fun j => ?_⟩
  have := q j
  cases hf : f j with
  | none =>
    rw [hf] at this
    exact this
  | some p =>
    obtain ⟨w, e⟩ := p
    rw [hf] at this
    obtain ⟨t, h1, h2⟩ := this
    exact ⟨t, h1, k.tup h2⟩
theorem RwAt.le {a : Addr} {f : Rw} {n m : Nat} (h : RwAt H a f n) (l : n ≤ m) : RwAt H a f m := let ⟨kvs, e, q, r⟩ := h; ⟨kvs, e, Nat.le_trans q l, r⟩
theorem EnAt.kt (k : Kt F H G) {v : V} : ∀ {e : En}, EnAt H v e → EnAt G v e
  | .deal _ _, ⟨a, dv, e, q, d⟩ => ⟨a, dv, e, k.tup q, d.kt k⟩
  | .tick _, ⟨a, e, q⟩ => ⟨a, e, k.tup q⟩
  | .odd, ⟨a, xs, e, q, .inl z⟩ => ⟨a, xs, e, k.tup q, .inl z⟩
  | .odd, ⟨a, xs, e, q, .inr (.inl z)⟩ => ⟨a, xs, e, k.tup q, .inr (.inl z)⟩
  | .odd, ⟨a, xs, e, q, .inr (.inr ⟨dv, ds, z, d⟩)⟩ => ⟨a, xs, e, k.tup q, .inr (.inr ⟨dv, ds, z, d.kt k⟩)⟩
theorem RdAt.kt (k : Kt F H G) {v : V} {r : Rd} (h : RdAt H v r) : RdAt G v r := let ⟨a, e, q⟩ := h; ⟨a, e, k.tup q⟩
end
section
variable {α : Type} [DecidableEq α] {kvs : List (α × V)}
theorem valV_drop (kvs : List (α × V)) (k j : α) : valV (dropK kvs k) j = if j = k then none else valV kvs j := by
  unfold valV dropK
  induction kvs with
  | nil => simp
  | cons p ps ih =>
    by_cases hp : p.1 = k
    · rw [List.filter_cons_of_neg (by simp [hp]), ih]
      by_cases hj : j = k
      · rw [if_pos hj, if_pos hj]
      · rw [if_neg hj, if_neg hj, List.find?_cons_of_neg (by simpa using fun z => hj (z.symm.trans hp))]
    · rw [List.filter_cons_of_pos (by simp [hp])]
      by_cases hj : p.1 = j
      · rw [List.find?_cons_of_pos (by simp [hj]), List.find?_cons_of_pos (by simp [hj]), if_neg (fun z => hp (hj.trans z))]
      · rw [List.find?_cons_of_neg (by simpa using hj), List.find?_cons_of_neg (by simpa using hj)]
        exact ih
theorem dropK_len (kvs : List (α × V)) (k : α) : (dropK kvs k).length ≤ kvs.length := List.length_filter_le _ _
end
theorem sz (n : Nat) (h : n ≤ 16777216) : n ≤ sizeLine := by rw [sizeLine_eq]; exact h
theorem szL {n : Nat} (h : n ≤ 16000) : n < sizeLine := by rw [sizeLine_eq]; omega
section
variable {H : Hp} {a : Addr} {f : Rw} {n : Nat}
/-- a key is stored -/
theorem RwAt.put {kvs : List (Key × V)} {k w e : Int} {t : Addr} (h : RwAt H a f n) (hd : H a = some (.dK kvs)) (ht : H t = some (.tup [.int w, .int e])) : RwAt (upd H a (.dK (putK kvs (.inl k) (.ref t)))) a (f.set k (some (w, e))) (n + 1) := by
  obtain ⟨kv2, e1, l, q⟩ := h
  obtain rfl : kvs = kv2 := by rw [e1] at hd; cases hd; rfl
  have nt : ∀ {t : Addr} {xs : List V}, H t = some (.tup xs) → t ≠ a := fun h => ne_of h e1 (by intro z; cases z)
  refine ⟨_, upd_same, Nat.le_trans (length_putK _ _ _) (by omega), fun j => ?_⟩
  rw [valV_put]
  unfold Rw.set
  by_cases hj : j = k
  · rw [if_pos hj, if_pos (by rw [hj])]
    exact ⟨t, rfl, by rw [upd_ne (nt ht)]; exact ht⟩
  · rw [if_neg hj, if_neg (fun z => hj (Sum.inl.inj z))]
    have := q j
    cases hf : f j with
    | none =>
      rw [hf] at this
      exact this
    | some p =>
      obtain ⟨w', e'⟩ := p
      rw [hf] at this
      obtain ⟨t', h1, h2⟩ := this
      exact ⟨t', h1, by rw [upd_ne (nt h2)]; exact h2⟩
theorem RwAt.del {kvs : List (Key × V)} {k : Int} (h : RwAt H a f n) (hd : H a = some (.dK kvs)) : RwAt (upd H a (.dK (dropK kvs (.inl k)))) a (f.set k none) n := by
  obtain ⟨kv2, e1, l, q⟩ := h
  obtain rfl : kvs = kv2 := by rw [e1] at hd; cases hd; rfl
  refine ⟨_, upd_same, Nat.le_trans (dropK_len _ _) l, fun j => ?_⟩
  rw [valV_drop]
  unfold Rw.set
  by_cases hj : j = k
  · rw [if_pos hj, if_pos (by rw [hj])]
  · rw [if_neg hj, if_neg (fun z => hj (Sum.inl.inj z))]
    have := q j
    cases hf : f j with
    | none =>
      rw [hf] at this
      exact this
    | some p =>
      obtain ⟨w', e'⟩ := p
      rw [hf] at this
      obtain ⟨t', h1, h2⟩ := this
      exact ⟨t', h1, by rw [upd_ne (ne_of h2 e1 (by intro z; cases z))]; exact h2⟩
theorem set_none {k : Int} (h : f k = none) : f.set k none = f := funext fun j => by
  unfold Rw.set
  by_cases hj : j = k
  · rw [if_pos hj, hj, h]
  · rw [if_neg hj]
end
end S16

set_option Elab.async false
set_option linter.all false
set_option maxRecDepth 100000
set_option maxHeartbeats 1000000
namespace S16
open PySem PySem.Spec PyProof.Rows L2 K5 SupX
section
variable {P : Program} {w : World} {K : PySem.W.Frag} {mg : Str → Option Value} {base : Heap} {A : Ad}
/-! ### within -/
theorem scwithin : FnScope ["number", "low", "high"] ["number", "low", "high"] (defScope s_within) := ⟨rfl, rfl, rfl, by decide +kernel, rfl, by decide +kernel, by decide +kernel⟩
/-- of a number; of None -/
def spWithin : Sp := fun vs H Q _ => ∃ (v : V) (lo hi : Int), vs = [v, .int lo, .int hi] ∧ ((∃ n, v = .int n ∧ Q (.bl (inB lo hi n)) H) ∨ (v = .non ∧ Q (.bl false) H))
theorem ok_within (T : Txt K mg A) : ∃ fd, FnOk P w K mg base CX0 1 (A.d 20) fd ["number", "low", "high"] spWithin ∧ Binds K fd ["number", "low", "high"] [] := by
  obtain ⟨fd, F⟩ := T.within.fn
  refine ⟨fd, F.ok scwithin (fun vs H Q E h => ?_) (fun cdv A outer s H vs Q E hr h => ?_), F.binds fun _ _ _ _ _ _ us hl => match us, hl with | [_, _, _], _ => rfl⟩
  · obtain ⟨v, lo, hi, rfl, _⟩ := h
    rfl
  · obtain ⟨v, lo, hi, rfl, k⟩ := h
    refine ⟨_, (pss_one (ps_ret (pe_and (pe_callB call_isi (by rfl) T.isinstance (by decide +kernel) (pa_cons (pv 0) (pa_cons (pe_bltn (v := .ty "int") (by rfl) T.int (by decide +kernel) rfl) pa_nil))) (pe_and (pe_not (pe_callB call_isi (by rfl) T.isinstance (by decide +kernel) (pa_cons (pv 0) (pa_cons (pe_bltn (v := .ty "bool") (by rfl) T.bool (by decide +kernel) rfl) pa_nil)))) (pe_one (pe_chain op_le op_le (pv 1) (pv 0) (pv 2))))))), ?_⟩
    rcases k with ⟨n, rfl, k⟩ | ⟨rfl, k⟩
    · refine ⟨_, rfl, _, _, _, _, true, rfl, .ty "int", .base (.int n), by rfl, true, rfl, iteT ?_⟩
      refine ⟨_, rfl, _, _, _, _, false, rfl, .ty "bool", .base (.int n), by rfl, false, rfl, true, rfl, iteT ?_⟩
      refine ⟨_, rfl, _, rfl, _, _, rfl, rfl, _, rfl, ?_⟩
      unfold inB at k
      by_cases h1 : lo ≤ n
      · rw [decide_eq_true h1] at k ⊢
        rw [Bool.true_and] at k
        exact iteT ⟨_, rfl, _, _, rfl, rfl, k⟩
      · rw [decide_eq_false h1] at k ⊢
        rw [Bool.false_and] at k
        exact iteF k
    · refine ⟨_, rfl, _, _, _, _, false, rfl, .ty "int", .base .non, by rfl, false, rfl, iteF ?_⟩
      exact k
/-! ### is_shown, shown_worth -/
theorem scis_shown : FnScope ["end", "moment"] ["end", "moment"] (defScope s_is_shown) := ⟨rfl, rfl, rfl, by decide +kernel, rfl, by decide +kernel, by decide +kernel⟩
def spShown : Sp := fun vs H Q _ => ∃ e m : Int, vs = [.int e, .int m] ∧ Q (.bl (shB e m)) H
theorem ok_is_shown (T : Txt K mg A) : ∃ fd, FnOk P w K mg base CX0 1 (A.d 27) fd ["end", "moment"] spShown ∧ Binds K fd ["end", "moment"] [] := by
  obtain ⟨fd, F⟩ := T.is_shown.fn
  refine ⟨fd, F.ok scis_shown (fun vs H Q E h => ?_) (fun cdv A outer s H vs Q E hr h => ?_), F.binds fun _ _ _ _ _ _ us hl => match us, hl with | [_, _], _ => rfl⟩
  · obtain ⟨e, m, rfl, _⟩ := h
    rfl
  · obtain ⟨e, m, rfl, k⟩ := h
    refine ⟨_, (pss_one (ps_ret (pe_or (pe_cmpR op_eq (pv 0) pe_int (nomark _)) (pe_one (pe_cmpR op_gt (pv 0) (pv 1) (nomark _)))))), ?_⟩
    refine ⟨_, rfl, rfl, _, rfl, ?_⟩
    unfold shB at k
    have e1 : decide (V.int e = V.int 0) = decide (e = 0) := by simp
    rw [e1]
    by_cases h1 : e = 0
    · rw [decide_eq_true h1] at k ⊢
      rw [Bool.true_or] at k
      exact iteT k
    · rw [decide_eq_false h1] at k ⊢
      rw [Bool.false_or] at k
      exact iteF ⟨_, rfl, _, rfl, _, _, rfl, rfl, k⟩
theorem scshown_worth : FnScope ["rows", "key", "moment", "worth", "end"] ["rows", "key", "moment"] (defScope s_shown_worth) := ⟨rfl, rfl, rfl, by decide +kernel, rfl, by decide +kernel, by decide +kernel⟩
def spWorth : Sp := fun vs H Q _ => ∃ (a : Addr) (k m : Int) (f : Rw) (n : Nat), vs = [.ref a, .int k, .int m] ∧ RwAt H a f n ∧ Q (oV (seen m f k)) H
theorem ok_shown_worth (T : Txt K mg A) : ∃ fd, FnOk P w K mg base CX0 2 (A.d 28) fd ["rows", "key", "moment"] spWorth ∧ Binds K fd ["rows", "key", "moment"] [] := by
  obtain ⟨fd, F⟩ := T.shown_worth.fn
  obtain ⟨fdS, Gis_shown, bis_shown⟩ := ok_is_shown (P := P) (w := w) (base := base) T
  refine ⟨fd, F.ok scshown_worth (fun vs H Q E h => ?_) (fun cdv A outer s H vs Q E hr h => ?_), F.binds fun _ _ _ _ _ _ us hl => match us, hl with | [_, _, _], _ => rfl⟩
  · obtain ⟨a, j, m, f, n, rfl, _⟩ := h
    rfl
  · obtain ⟨a, j, m, f, n, rfl, ⟨kvs, hd, hl, hf⟩, k⟩ := h
    have hu := hu_of hr
    refine ⟨_, (pss_cons (ps_if (pt_cmp (pc_dnotin hu (pv 1) (pv 0)))
        (pss_one (ps_ret pe_non))
        pss_nil)
      (pss_cons (ps_asg (pe_dget hu (pv 0) (pv 1) (fun _ _ => rfl)) (pg_tup rfl (pgs_cons (pg_name (i := 3) scshown_worth.nd rfl (Or.inl rfl)) (pgs_cons (pg_name (i := 4) scshown_worth.nd rfl (Or.inl rfl)) pgs_nil))))
      (pss_one (ps_ret (pe_ifExp (pt_val (pe_call Gis_shown (hr.mono (by first | decide | omega)) rfl T.is_shown.at_ T.is_shown.kp bis_shown .nil pass0 (pa_cons (pv 4) (pa_cons (pv 2) pa_nil)))) (pv 3) pe_non))))), ?_⟩
    have q := hf j
    unfold seen at k
    refine ⟨_, rfl, _, rfl, a, _, rfl, DGet.k (k := Sum.inl j) hd, _, rfl, ?_⟩
    cases e : f j with
    | none =>
      rw [e] at q k
      rw [q]
      exact iteT k
    | some p =>
      obtain ⟨wt, en⟩ := p
      rw [e] at q k
      obtain ⟨t, q1, q2⟩ := q
      rw [q1]
      refine iteF ?_
      refine ⟨_, rfl, _, rfl, a, _, rfl, by have := DGet.k (k := Sum.inl j) hd; rw [q1] at this; exact this, ?_⟩
      refine ⟨t, _, rfl, SqT.of q2, rfl, _, _, rfl, _, _, rfl, rfl, ?_⟩
      refine ⟨_, rfl, _, rfl, en, m, rfl, _, rfl, ?_⟩
      by_cases hs : shB en m = true
      · have k : Q (oV (if shB en m = true then some wt else none)) H := k
        rw [if_pos hs] at k
        rw [hs]
        exact iteT ⟨_, rfl, k⟩
      · have k : Q (oV (if shB en m = true then some wt else none)) H := k
        rw [if_neg hs] at k
        rw [Bool.not_eq_true] at hs
        rw [hs]
        exact iteF k
end
end S16

set_option Elab.async false
set_option linter.all false
set_option maxRecDepth 100000
set_option maxHeartbeats 1000000
namespace S16
open PySem PySem.Spec PyProof.Rows L2 K5 SupX
section
variable {P : Program} {w : World} {K : PySem.W.Frag} {mg : Str → Option Value} {base : Heap} {A : Ad}
/-- a deed's action: rows at a, the parts at p, the moment -/
def spAct (wd : Str) : Sp := fun vs H Q _ => ∃ (a p : Addr) (m : Int) (f : Rw) (n : Nat) (d : Dd), vs = [.ref a, .ref p, .int m] ∧ d.word = wd ∧ RwAt H a f n ∧ n ≤ 15000 ∧ H p = some (.lst d.parts) ∧
  ∀ G, Kp (fun b => b = a) H G → (step m f d = none → Q (.bl false) G) ∧ (∀ g, step m f d = some g → RwAt G a g (n + 1) → Q (.bl true) G)
theorem spAct_len {wd : Str} {vs : List V} {H : Hp} {Q : VK} {E : XK} (h : spAct wd vs H Q E) : vs.length = 3 := by
  obtain ⟨a, p, m, f, n, d, rfl, _⟩ := h
  rfl
theorem scput_row : FnScope ["rows", "parts", "moment", "key", "worth", "life"] ["rows", "parts", "moment"] (defScope s_put_row) := ⟨rfl, rfl, rfl, by decide +kernel, rfl, by decide +kernel, by decide +kernel⟩
theorem ok_put_row (T : Txt K mg A) : ∃ fd, FnOk P w K mg base CX0 3 (A.d 29) fd ["rows", "parts", "moment"] (spAct "put") ∧ Binds K fd ["rows", "parts", "moment"] [] := by
  obtain ⟨fd, F⟩ := T.put_row.fn
  refine ⟨fd, F.ok scput_row (fun vs H Q E h => spAct_len h) (fun cdv A outer s H vs Q E hr h => ?_), F.binds fun _ _ _ _ _ _ us hl => match us, hl with | [_, _, _], _ => rfl⟩
  obtain ⟨a, p, m, f, n, d, rfl, hw, R, hn, hp, k⟩ := h
  have hu := hu_of hr
  obtain ⟨j, wt, l, rfl⟩ : ∃ j wt l, d = .put j wt l := by
    cases d with
    | put j wt l => exact ⟨j, wt, l, rfl⟩
    | drop => cases hw
    | add => cases hw
    | iff => cases hw
  refine ⟨_, (pss_cons (ps_asg (pv 1) (pg_unl rfl (pgs_cons (pg_name (i := 3) scput_row.nd rfl (Or.inl rfl)) (pgs_cons (pg_name (i := 4) scput_row.nd rfl (Or.inl rfl)) (pgs_cons (pg_name (i := 5) scput_row.nd rfl (Or.inl rfl)) pgs_nil)))))
      (pss_cons (ps_dput hu (pv 0) (pv 3) (pe_tup (pa_cons (pv 4) (pa_cons (pe_ifExp (pt_truth (pv 5) (by intro _; rfl)) (pe_op op_add (pv 2) (pv 5)) pe_int) pa_nil))) rfl)
      (pss_one (ps_ret pe_bl)))), ?_⟩
  have ⟨kvs, hd, hl, _⟩ := R
  refine ⟨_, rfl, p, _, rfl, SqL.of hp, rfl, _, _, rfl, _, _, rfl, _, _, rfl, rfl, ?_⟩
  refine ⟨_, rfl, _, rfl, (l != 0), rfl, ?_⟩
  refine ite2 (fun h0 => ⟨_, rfl, _, rfl, _, _, rfl, rfl, ?_⟩) (fun h0 => ?_)
  all_goals
    refine ⟨sz 2 (by decide), fun t ht => ?_⟩
    refine ⟨_, rfl, _, rfl, a, _, rfl, DPut.k (k := Sum.inl j) ((upd_ne (ne_of_none hd ht)).trans hd) (szL (by omega)), ?_⟩
    refine (k _ ((Kp.new ht).andD ((upd_ne (ne_of_none hd ht)).trans hd) rfl)).2 _ ?_ ((R.kt (Kp.new (F := No) ht).t fun z => z).put (k := j) ((upd_ne (ne_of_none hd ht)).trans hd) upd_same)
    have h0' : (l != 0) = true ↔ l ≠ 0 := bne_iff_ne
    simp only [step]
    first
      | rw [if_neg (h0'.mp h0)]
      | rw [if_pos (Decidable.byContradiction fun z => h0 (h0'.mpr z))]
theorem scdrop_row : FnScope ["rows", "parts", "moment"] ["rows", "parts", "moment"] (defScope s_drop_row) := ⟨rfl, rfl, rfl, by decide +kernel, rfl, by decide +kernel, by decide +kernel⟩
theorem ok_drop_row (T : Txt K mg A) : ∃ fd, FnOk P w K mg base CX0 3 (A.d 30) fd ["rows", "parts", "moment"] (spAct "drop") ∧ Binds K fd ["rows", "parts", "moment"] [] := by
  obtain ⟨fd, F⟩ := T.drop_row.fn
  refine ⟨fd, F.ok scdrop_row (fun vs H Q E h => spAct_len h) (fun cdv A outer s H vs Q E hr h => ?_), F.binds fun _ _ _ _ _ _ us hl => match us, hl with | [_, _, _], _ => rfl⟩
  obtain ⟨a, p, m, f, n, d, rfl, hw, R, hn, hp, k⟩ := h
  have hu := hu_of hr
  obtain ⟨j, rfl⟩ : ∃ j, d = .drop j := by
    cases d with
    | put => cases hw
    | drop j => exact ⟨j, rfl⟩
    | add => cases hw
    | iff => cases hw
  refine ⟨_, (pss_cons (ps_expr (pe_dpop2 (pv 0) (pe_ix ix_list (pv 1) pe_int (fun _ _ => rfl)) pe_non ⟨rfl, rfl, rfl, rfl⟩))
      (pss_one (ps_ret pe_bl))), ?_⟩
  have ⟨kvs, hd, hl, hf⟩ := R
  refine ⟨_, rfl, a, rfl, .inl ⟨kvs, .inl hd⟩, _, rfl, p, _, 0, .int j, rfl, rfl, SqL.of hp, rfl, kvs, Sum.inl j, hd, rfl, fun v hv => ?_, fun hv => ?_⟩
  · exact (k _ (Kp.updD hd rfl)).2 _ rfl ((R.del (k := j) hd).le (by omega))
  · have e : f.set j none = f := set_none (by
      have := hf j
      cases e : f j with
      | none => rfl
      | some q =>
        obtain ⟨w', e'⟩ := q
        rw [e] at this
        obtain ⟨t, h1, _⟩ := this
        rw [hv] at h1
        cases h1)
    exact (k _ (Kp.refl _ _)).2 _ rfl (by rw [e]; exact R.le (by omega))
theorem scadd_to_row : FnScope ["rows", "parts", "moment", "key", "more", "worth"] ["rows", "parts", "moment"] (defScope s_add_to_row) := ⟨rfl, rfl, rfl, by decide +kernel, rfl, by decide +kernel, by decide +kernel⟩
theorem ok_add_to_row (T : Txt K mg A) : ∃ fd, FnOk P w K mg base CX0 3 (A.d 31) fd ["rows", "parts", "moment"] (spAct "add") ∧ Binds K fd ["rows", "parts", "moment"] [] := by
  obtain ⟨fd, F⟩ := T.add_to_row.fn
  obtain ⟨fdW, Gshown_worth, bshown_worth⟩ := ok_shown_worth (P := P) (w := w) (base := base) T
  obtain ⟨fdI, Gwithin, bwithin⟩ := ok_within (P := P) (w := w) (base := base) T
  refine ⟨fd, F.ok scadd_to_row (fun vs H Q E h => spAct_len h) (fun cdv A outer s H vs Q E hr h => ?_), F.binds fun _ _ _ _ _ _ us hl => match us, hl with | [_, _, _], _ => rfl⟩
  obtain ⟨a, p, m, f, n, d, rfl, hw, R, hn, hp, k⟩ := h
  have hu := hu_of hr
  obtain ⟨j, x, rfl⟩ : ∃ j x, d = .add j x := by
    cases d with
    | put => cases hw
    | drop => cases hw
    | add j x => exact ⟨j, x, rfl⟩
    | iff => cases hw
  refine ⟨_, (pss_cons (ps_asg (pv 1) (pg_unl rfl (pgs_cons (pg_name (i := 3) scadd_to_row.nd rfl (Or.inl rfl)) (pgs_cons (pg_name (i := 4) scadd_to_row.nd rfl (Or.inl rfl)) pgs_nil))))
      (pss_cons (ps_set (i := 5) scadd_to_row.nd rfl (Or.inl rfl) (pe_call Gshown_worth (hr.mono (by first | decide | omega)) rfl T.shown_worth.at_ T.shown_worth.kp bshown_worth .nil pass0 (pa_cons (pv 0) (pa_cons (pv 3) (pa_cons (pv 2) pa_nil)))))
      (pss_cons (ps_if (PW.pt (pw_or (pt_cmp (pc_isN (pv 5))) (pw_or1 (pt_not (pt_val (pe_call Gwithin (hr.mono (by first | decide | omega)) rfl T.within.at_ T.within.kp bwithin .nil pass0 (pa_cons (pe_op op_add (pv 5) (pv 4)) (pa_cons pe_int (pa_cons (pe_glob (v := .int 999) rfl T.k_LAST_WORTH.choose_spec ⟨_, rfl⟩) pa_nil)))))))))
        (pss_one (ps_ret pe_bl))
        pss_nil)
      (pss_cons (ps_dput hu (pv 0) (pv 3) (pe_tup (pa_cons (pe_op op_add (pv 5) (pv 4)) (pa_cons (pe_ix ix_tup (pe_dget hu (pv 0) (pv 3) (fun _ _ => rfl)) pe_int (fun _ _ => rfl)) pa_nil))) rfl)
      (pss_one (ps_ret pe_bl)))))), ?_⟩
  have ⟨kvs, hd, hl, hf⟩ := R
  refine ⟨_, rfl, p, _, rfl, SqL.of hp, rfl, _, _, rfl, _, _, rfl, rfl, ?_⟩
  refine ⟨_, rfl, _, rfl, _, rfl, a, j, m, f, n, rfl, R, ?_⟩
  have q := hf j
  have no := (k H (Kp.refl _ _)).1
  cases e : f j with
  | none =>
    have s0 : step m f (.add j x) = none := by simp only [step, e]
    have z0 : seen m f j = none := by simp only [seen, e]
    rw [z0]
    exact ⟨_, rfl, _, rfl, iteT (iteT (no s0))⟩
  | some r =>
    obtain ⟨wt, en⟩ := r
    rw [e] at q
    obtain ⟨t, q1, q2⟩ := q
    by_cases hs : shB en m = true
    · have z0 : seen m f j = some wt := by simp only [seen, e, hs, if_true]
      rw [z0]
      refine ⟨_, rfl, _, rfl, iteF ?_⟩
      refine ⟨_, rfl, _, rfl, _, _, rfl, rfl, _, 0, 999, rfl, .inl ⟨_, rfl, _, rfl, ?_⟩⟩
      cases hb : inB 0 999 (wt + x) with
      | false =>
        have s0 : step m f (.add j x) = none := by simp only [step, e, hs, hb]; rfl
        exact iteT (no s0)
      | true =>
        have s0 : step m f (.add j x) = some (f.set j (some (wt + x, en))) := by simp only [step, e, hs, hb]; rfl
        refine iteF ?_
        refine ⟨_, rfl, _, rfl, _, _, rfl, rfl, _, rfl, _, rfl, a, _, rfl, (by have := DGet.k (k := Sum.inl j) hd; rw [q1] at this; exact this), t, _, 1, .int en, rfl, rfl, SqT.of q2, rfl, sz 2 (by decide), fun t2 h2 => ?_⟩
        refine ⟨_, rfl, _, rfl, a, _, rfl, DPut.k (k := Sum.inl j) ((upd_ne (ne_of_none hd h2)).trans hd) (szL (by omega)), ?_⟩
        exact (k _ ((Kp.new h2).andD ((upd_ne (ne_of_none hd h2)).trans hd) rfl)).2 _ s0 ((R.kt (Kp.new (F := No) h2).t fun z => z).put (k := j) ((upd_ne (ne_of_none hd h2)).trans hd) upd_same)
    · have z0 : seen m f j = none := by simp only [seen, e, hs, if_false]; rfl
      have s0 : step m f (.add j x) = none := by simp only [step, e, hs, false_and, if_false]; rfl
      rw [z0]
      exact ⟨_, rfl, _, rfl, iteT (iteT (no s0))⟩
theorem scdoes_show : FnScope ["rows", "parts", "moment", "key", "worth"] ["rows", "parts", "moment"] (defScope s_does_show) := ⟨rfl, rfl, rfl, by decide +kernel, rfl, by decide +kernel, by decide +kernel⟩
theorem oV_eq {a b : Option Int} : decide (oV a = oV b) = decide (a = b) := by
  cases a <;> cases b <;> simp [oV]
theorem ok_does_show (T : Txt K mg A) : ∃ fd, FnOk P w K mg base CX0 3 (A.d 32) fd ["rows", "parts", "moment"] (spAct "if") ∧ Binds K fd ["rows", "parts", "moment"] [] := by
  obtain ⟨fd, F⟩ := T.does_show.fn
  obtain ⟨fdW, Gshown_worth, bshown_worth⟩ := ok_shown_worth (P := P) (w := w) (base := base) T
  refine ⟨fd, F.ok scdoes_show (fun vs H Q E h => spAct_len h) (fun cdv A outer s H vs Q E hr h => ?_), F.binds fun _ _ _ _ _ _ us hl => match us, hl with | [_, _, _], _ => rfl⟩
  obtain ⟨a, p, m, f, n, d, rfl, hw, R, hn, hp, k⟩ := h
  have hu := hu_of hr
  obtain ⟨j, x, rfl⟩ : ∃ j x, d = .iff j x := by
    cases d with
    | put => cases hw
    | drop => cases hw
    | add => cases hw
    | iff j x => exact ⟨j, x, rfl⟩
  refine ⟨_, (pss_cons (ps_asg (pv 1) (pg_unl rfl (pgs_cons (pg_name (i := 3) scdoes_show.nd rfl (Or.inl rfl)) (pgs_cons (pg_name (i := 4) scdoes_show.nd rfl (Or.inl rfl)) pgs_nil))))
      (pss_one (ps_ret (pe_cmpR op_eq (pe_call Gshown_worth (hr.mono (by first | decide | omega)) rfl T.shown_worth.at_ T.shown_worth.kp bshown_worth .nil pass0 (pa_cons (pv 0) (pa_cons (pv 3) (pa_cons (pv 2) pa_nil)))) (pv 4) (nomark _))))), ?_⟩
  refine ⟨_, rfl, p, _, rfl, SqL.of hp, rfl, _, _, rfl, _, _, rfl, rfl, ?_⟩
  refine ⟨_, rfl, _, rfl, _, rfl, a, j, m, f, n, rfl, R, _, rfl, ?_⟩
  have kk := k H (Kp.refl _ _)
  refine ⟨?_, ?_⟩
  · cases x <;> cases seen m f j <;> rfl
  · rw [oV_eq]
    by_cases h : seen m f j = x
    · rw [decide_eq_true h]
      exact kk.2 f (by simp only [step, h, if_true]) (R.le (by omega))
    · rw [decide_eq_false h]
      exact kk.1 (by simp only [step, h, if_false])
end
end S16

set_option Elab.async false
set_option linter.all false
set_option maxRecDepth 100000
set_option maxHeartbeats 1000000
namespace S16
open PySem PySem.Spec PyProof.Rows L2 K5 SupX
/-- a comprehension over such a zip -/
theorem lc_zipM {K : PySem.W.Frag} {a : Addr} {sq : Hp → Prop} {xs ys : List V} {g : TG} {tt : TT} {te : TE} {vs : List Nat} {σ : L2.St} {H1 : Hp} {D : Addr} {Qd : Hp → Prop} (Pv : Nat → Hp → Prop) (h0 : Pv 0 (upd H1 D (.lst []))) (hq : ∀ i H, Pv i H → SqL K H a xs ∧ sq H)
    (hs : ∀ (i : Nat) (x y : V) (T : Addr) (H : Hp), xs[i]? = some x → ys[i]? = some y → Pv i H → H T = none → g (.ref T) (wipe σ vs) (upd H T (.tup [x, y])) fun σ2 H2 => wipe σ2 vs = wipe σ vs ∧ tt σ2 H2 fun b H3 =>
      if b = true then te σ2 H3 fun z H4 => ∃ acc, H4 D = some (.lst acc) ∧ acc.length < sizeLine ∧ Pv (i + 1) (upd H4 D (.lst (acc ++ [z]))) else Pv (i + 1) H3) (hd : ∀ H, Pv (min xs.length ys.length) H → Qd H) :
    ∃ W : Nat → Nat → Hp → Prop, (∃ m, W 0 m (upd H1 D (.lst []))) ∧ ∀ i m H, W i m H →
      ((ItM K a sq xs ys).stop i H ∧ Qd H) ∨ ((ItM K a sq xs ys).go i H ∧ ∃ Nx : Hp → Prop, (∀ H', Nx H' → ∃ m', m' < m ∧ W (i + 1) m' H') ∧ ∀ x H', (ItM K a sq xs ys).yld i H x H' → g x (wipe σ vs) H' fun σ2 H2 => wipe σ2 vs = wipe σ vs ∧ tt σ2 H2 fun b H3 =>
        if b = true then te σ2 H3 fun y H4 => ∃ acc, H4 D = some (.lst acc) ∧ acc.length < sizeLine ∧ Nx (upd H4 D (.lst (acc ++ [y]))) else Nx H3) := by
  refine ⟨fun i m H => m = min xs.length ys.length - i ∧ i ≤ min xs.length ys.length ∧ Pv i H, ⟨_, rfl, Nat.zero_le _, h0⟩, ?_⟩
  rintro i m H ⟨rfl, hi, p⟩
  obtain ⟨qx, qy⟩ := hq i H p
  by_cases lt : i < min xs.length ys.length
  · refine .inr ⟨⟨qx, qy, by omega, by omega⟩, Pv (i + 1), fun G p' => ⟨min xs.length ys.length - (i + 1), by omega, rfl, by omega, p'⟩, fun v G yl => ?_⟩
    obtain ⟨T, x, y, rfl, hT, rfl, e1, e2⟩ := yl
    exact hs i x y T H e1 e2 p hT
  · have e : i = min xs.length ys.length := by omega
    subst e
    exact .inl ⟨⟨qx, qy, by omega, by omega, by omega⟩, hd H p⟩
/-- a written tuple -/
def WT (K : PySem.W.Frag) (a : Addr) (xs : List V) : Prop := ∃ (o : Obj) (its : Array Value) (n : Nat), K.lookup a = some o ∧ o.cls = .type "tuple" ∧ o.data = .seq its n ∧ its.size ≤ sizeLine ∧ Vals xs its.toList
theorem WT.sq {K : PySem.W.Frag} {a : Addr} {xs : List V} (h : WT K a xs) (H : Hp) : SqT K H a xs := .inr h
def bnds : Dd → List (Int × Int)
  | .put .. => [(0, 31), (0, 999), (0, 1000)]
  | .drop .. => [(0, 31)]
  | .add .. => [(0, 31), (-999, 999)]
  | .iff .. => [(0, 31), (0, 999)]
def BndAt (K : PySem.W.Frag) (b : Addr) (l : List (Int × Int)) : Prop := ∃ as : List Addr, WT K b (as.map V.ref) ∧ Paired (fun a p => WT K a [.int p.1, .int p.2]) as l
/-- what the top has beside names -/
structure Ex (P : Program) (w : World) (K : PySem.W.Frag) (mg : Str → Option Value) (A : Ad) (B C fI : Addr) : Prop where
  bounds : mg "BOUNDS" = some (.ref B)
  bd : ∃ es n, KDict K w B es n
  bn : ∀ d : Dd, ∃ b, PySem.W.nsIn K B d.word = some (some (.ref b)) ∧ BndAt K b (bnds d)
  actions : mg "ACTIONS" = some (.ref C)
  cd : ∃ es n, K.lookup C = some ⟨.type "dict", none, .dict es n, #[]⟩ ∧ PySem.W.KeysLit w.params es.toList
  cp : PySem.W.nsIn K C "put" = some (some (.ref (A.d 29)))
  cr : PySem.W.nsIn K C "drop" = some (some (.ref (A.d 30)))
  ca : PySem.W.nsIn K C "add" = some (some (.ref (A.d 31)))
  ci : PySem.W.nsIn K C "if" = some (some (.ref (A.d 32)))
  init : InitAt P K (A.c 2) fI "BadDeal.__init__" s_BadDeal___init__
  cls : ClsAt K mg (A.c 2) "place"
section
variable {P : Program} {w : World} {K : PySem.W.Frag} {mg : Str → Option Value} {base : Heap} {A : Ad} {B C fI : Addr}
abbrev Nscis_deed : List Str := ["deed", "word", "parts", "bounds", "part", "low", "high"]
theorem scis_deed : FnScope Nscis_deed ["deed"] (defScope s_is_deed) := ⟨rfl, rfl, rfl, by decide +kernel, rfl, by decide +kernel, by decide +kernel⟩
def spDeed : Sp := fun vs H Q _ => ∃ (v : V) (d : Dd), vs = [v] ∧ DdAt H v d ∧ ∀ G, Kp No H G → Q (.bl d.ok) G
theorem ok_is_deed (T : Txt K mg A) (X : Ex P w K mg A B C fI) : ∃ fd, FnOk P w K mg base CX0 2 (A.d 25) fd ["deed"] spDeed ∧ Binds K fd ["deed"] [] := by
  obtain ⟨fd, F⟩ := T.is_deed.fn
  obtain ⟨fdI, Gwithin, bwithin⟩ := ok_within (P := P) (w := w) (base := base) T
  obtain ⟨es, n, hB⟩ := X.bd
  refine ⟨fd, F.ok scis_deed (fun vs H Q E h => ?_) (fun cdv A outer s H vs Q E hr h => ?_), F.binds fun _ _ _ _ _ _ us hl => match us, hl with | [_], _ => rfl⟩
  · obtain ⟨v, d, rfl, _⟩ := h
    rfl
  · obtain ⟨v, d, rfl, ⟨a, rfl, ha⟩, k⟩ := h
    have hu := hu_of hr
    refine ⟨_, (pss_cons (ps_if (PW.pt (pw_or (pt_not (pt_val (pe_callB call_isi (by rfl) T.isinstance (by decide +kernel) (pa_cons (pv 0) (pa_cons (pe_bltn (v := .ty "tuple") (by rfl) T.tuple (by decide +kernel) rfl) pa_nil))))) (pw_or (pt_not (pt_truth (pv 0) (by intro _; rfl))) (pw_or1 (pt_cmpR (op_notIn_kd hB) (pe_ix ix_tup (pv 0) pe_int (fun _ _ => rfl)) (pe_glob (v := .ref B) rfl X.bounds rfl) rfl)))))
        (pss_one (ps_ret pe_bl))
        pss_nil)
      (pss_cons (ps_asg (pv 0) (pg_star (n := 1) rfl (pgs_cons (pg_name (i := 1) scis_deed.nd rfl (Or.inl rfl)) (pgs_star (pg_name (i := 2) scis_deed.nd rfl (Or.inl rfl))))))
      (pss_cons (ps_set (i := 3) scis_deed.nd rfl (Or.inl rfl) (pe_ix ix_kdict (pe_glob (v := .ref B) rfl X.bounds rfl) (pv 1) (fun _ _ => rfl)))
      (pss_cons (ps_if (pt_cmpR op_ne (pe_callB call_len_seq (by rfl) T.len PySem.boot_len (pa_cons (pv 2) pa_nil)) (pe_callB call_len_seq (by rfl) T.len PySem.boot_len (pa_cons (pv 3) pa_nil)) (nomark _))
        (pss_one (ps_ret pe_bl))
        pss_nil)
      (pss_cons (ps_if (PW.pt (pw_and (pt_cmpR op_eq (pv 1) pe_str (nomark _)) (pw_and1 (pt_cmp (pc_isN (pe_ix ix_list (pv 2) pe_int (fun _ _ => rfl)))))))
        (pss_one (ps_ret (pe_call Gwithin (hr.mono (by first | decide | omega)) rfl T.within.at_ T.within.kp bwithin .nil pass0 (pa_cons (pe_ix ix_list (pv 2) pe_int (fun _ _ => rfl)) (pa_cons pe_int (pa_cons (pe_glob (v := .int 31) rfl T.k_LAST_KEY.choose_spec ⟨_, rfl⟩) pa_nil))))))
        pss_nil)
      (pss_one (ps_ret (pe_callB (cr_all rfl) (by rfl) T.all (by decide +kernel) (pa_cons (pe_lc (own := [("part", 4), ("low", 5), ("high", 6)]) (g := (gTup K 2 (gCons (gName 4) (gCons (gTup K 2 (gCons (gName 5) (gCons (gName 6) gNil))) gNil)))) (by rfl) scis_deed.nd (pi_zipM (by rfl) T.zip (pa_cons (pv 2) (pa_cons (pv 3) pa_nil))) (blkOk_by (N := Nscis_deed) (sc := defScope s_is_deed) (by decide +kernel)) (fun _ _ _ _ _ => pg_tup rfl (pgs_cons (pg_name (i := 4) scis_deed.nd rfl (Or.inl rfl)) (pgs_cons (pg_tup rfl (pgs_cons (pg_name (i := 5) scis_deed.nd rfl (Or.inl rfl)) (pgs_cons (pg_name (i := 6) scis_deed.nd rfl (Or.inl rfl)) pgs_nil))) pgs_nil))) (fun _ _ _ _ _ => pts_nil) (fun _ _ _ _ _ => (pe_call Gwithin (hr.mono (by first | decide | omega)) rfl T.within.at_ T.within.kp bwithin .nil pass0 (pa_cons (pv 4) (pa_cons (pv 5) (pa_cons (pv 6) pa_nil)))))) pa_nil))))))))), ?_⟩
    obtain ⟨b, hb, as, wb, pb⟩ := X.bn d
    have kd : KDct K w B d.word (.ref b) := ⟨es, n, _, hB.at_, hB.lit, hb, rfl⟩
    have hlen : as.length = d.parts.length := by
      rw [pb.length]
      cases d <;> rfl
    refine ⟨_, rfl, .ref a, _, _, _, true, rfl, .ty "tuple", .base (.tup ha), by rfl, true, rfl, iteF ?_⟩
    refine ⟨_, rfl, true, .inr (.inl ⟨_, SqT.of ha, rfl⟩), iteF ?_⟩
    refine ⟨_, rfl, a, _, 0, .str d.word, rfl, rfl, SqT.of ha, atI_nat (j := 0) rfl, d.word, _, rfl, rfl, hb, _, rfl, iteF ?_⟩
    refine ⟨_, rfl, a, _, rfl, SqT.of ha, (by show 1 ≤ d.vs.length; simp [Dd.vs]), (by cases d <;> simp [Dd.vs, Dd.parts]), fun L hL => ?_⟩
    refine ⟨_, _, rfl, _, _, rfl, rfl, ?_⟩
    refine ⟨_, rfl, B, d.word, .ref b, rfl, rfl, kd, ?_⟩
    refine ⟨_, rfl, L, _, rfl, .inl (SqL.of upd_same), _, rfl, b, _, rfl, .inr (wb.sq _), rfl, _, rfl, ?_⟩
    have e1 : (!decide (V.int ((List.drop 1 d.vs).length : Nat) = V.int ((as.map V.ref).length : Nat))) = false := by
      rw [List.length_map, hlen]
      simp [Dd.vs]
    rw [e1]
    refine iteF ?_
    have dp : List.drop 1 d.vs = d.parts := rfl
    rw [dp]
    -- all([..])
    have main : ∀ (ns : List Int) (σ : L2.St), d.parts = ns.map V.int → d.ok = ((ns.zip (bnds d)).map fun p => inB p.2.1 p.2.2 p.1).all id → σ[2]? = some (some (.ref L)) → σ[3]? = some (some (.ref b)) → σ.length = 7 →
        tRet (tCB (rAll K) (tCons (tLc (iZipM K (tCons (tVar 2) (tCons (tVar 3) tNil))) (gTup K 2 (gCons (gName 4) (gCons (gTup K 2 (gCons (gName 5) (gCons (gName 6) gNil))) gNil))) tYes
          (tCall spWithin [] E0 (tCons (tVar 4) (tCons (tVar 5) (tCons (tVar 6) tNil)))) [4, 5, 6]) tNil)) { nx := fun _ G => Q .non G, rt := Q } σ (upd H L (.lst d.parts)) := by
      intro ns σ hp hok h2 h3 h7
      obtain ⟨s0, s1, s2, s3, s4, s5, s6, rfl⟩ : ∃ s0 s1 s2 s3 s4 s5 s6, σ = [s0, s1, s2, s3, s4, s5, s6] := by
        match σ, h7 with
        | [s0, s1, s2, s3, s4, s5, s6], _ => exact ⟨_, _, _, _, _, _, _, rfl⟩
      cases h2
      cases h3
      have lz : ns.length = (bnds d).length := by
        have := congrArg List.length hp
        rw [List.length_map] at this
        rw [← this, ← hlen, pb.length]
      have hL1 : upd H L (.lst d.parts) L = some (.lst (ns.map V.int)) := by rw [upd_same, hp]
      refine ⟨_, rfl, _, rfl, L, b, ns.map V.int, as.map V.ref, rfl, SqL.of hL1, .inr ⟨wb.sq _, fun D hD => lc_zipM (fun i G => Kp (fun c => c = D) (upd H L (.lst d.parts)) G ∧ G D = some (.lst ((((ns.zip (bnds d)).map fun p => inB p.2.1 p.2.2 p.1).map V.bl).take i))) ⟨Kp.new hD, upd_same⟩ (fun i G ⟨kp, _⟩ => ⟨SqL.of (kp.t.lst hL1 (ne_of_none hL1 hD)), wb.sq _⟩) ?_ ?_⟩⟩
      · intro i x y T G hx hy ⟨kp, hG⟩ hT
        rw [List.getElem?_map] at hx hy
        cases ex : ns[i]? with
        | none => rw [ex] at hx; cases hx
        | some n0 =>
          cases ey : as[i]? with
          | none => rw [ey] at hy; cases hy
          | some a0 =>
            rw [ex] at hx
            rw [ey] at hy
            cases hx
            cases hy
            obtain ⟨q, hq, wq⟩ := paired_at pb ey
            have hD2 := (upd_ne (o := .tup [V.int n0, V.ref a0]) (ne_of_none hG hT)).trans hG
            refine ⟨T, _, rfl, SqT.of upd_same, rfl, _, _, rfl, _, _, rfl, ⟨a0, _, rfl, wq.sq _, rfl, _, _, rfl, _, _, rfl, rfl, rfl, rfl, ?_⟩⟩
            have hb2 : ((ns.zip (bnds d)).map fun p => inB p.2.1 p.2.2 p.1)[i]? = some (inB q.1 q.2 n0) := by
              rw [List.getElem?_map, List.getElem?_zip_eq_some (z := (n0, q)) |>.mpr ⟨ex, hq⟩]
              rfl
            refine ⟨_, rfl, _, rfl, _, rfl, .int n0, q.1, q.2, rfl, .inl ⟨n0, rfl, _, hD2, szL (by have : (bnds d).length ≤ 3 := (by cases d <;> simp [bnds]); simp only [List.length_take, List.length_map, List.length_zip]; omega), ?_⟩⟩
            refine ⟨(kp.andN hT).andL hD2 rfl, ?_⟩
            · rw [upd_same, take_snoc (x := V.bl (inB q.1 q.2 n0)) (by rw [List.getElem?_map, hb2]; rfl)]
      · intro G ⟨kp, hG⟩
        refine ⟨D, (ns.zip (bnds d)).map fun p => inB p.2.1 p.2.2 p.1, rfl, SqL.of ?_, ?_⟩
        · rw [hG, List.take_of_length_le (by simp only [List.length_map, List.length_zip]; rw [pb.length]; omega)]
        · rw [← hok]
          exact k G ((Kp.new hL).trans (kp_fresh (F' := No) kp fun c z => by rw [z]; exact hD) fun _ z => False.elim z)
    refine ⟨_, rfl, rfl, _, rfl, ?_⟩
    cases d with
    | put j wt l => exact iteF (iteF (main [j, wt, l] _ rfl (by simp [Dd.ok, bnds, inB]) rfl rfl rfl))
    | drop j => exact iteF (iteF (main [j] _ rfl (by simp [Dd.ok, bnds, inB]) rfl rfl rfl))
    | add j x => exact iteF (iteF (main [j, x] _ rfl (by simp [Dd.ok, bnds, inB]) rfl rfl rfl))
    | iff j x =>
      refine iteT ⟨_, rfl, L, _, 1, oV x, rfl, rfl, SqL.of upd_same, atI_nat (j := 1) rfl, _, rfl, ?_⟩
      cases x with
      | none =>
        refine iteT ⟨_, rfl, L, _, 0, .int j, rfl, rfl, SqL.of upd_same, atI_nat (j := 0) rfl, _, 0, 31, rfl, .inl ⟨j, rfl, ?_⟩⟩
        exact k _ (Kp.new hL)
      | some x => exact iteF (main [j, x] _ rfl (by simp [Dd.ok, bnds, inB]) rfl rfl rfl)
end
end S16

set_option Elab.async false
set_option linter.all false
set_option maxRecDepth 100000
set_option maxHeartbeats 1000000
namespace S16
open PySem PySem.Spec PyProof.Rows L2 K5 SupX
/-- the layer of defs that may raise: the exception's context is None -/
theorem okN {P : Program} {w : World} {K : PySem.W.Frag} {mg : Str → Option Value} {base : Heap} {x qual : Str} {st : Stmt} {f : Addr} {fd : FuncData} {N ps : List Str} {k : Nat} {sp : Sp} (F : Fun K x qual st f fd)
    (S : FnScope N ps (defScope st)) (len : ∀ vs H Q E, sp vs H Q E → vs.length = ps.length)
    (body : ∀ (cdv : Value) (A : Around) (outer : List Env) (s : Shared) (H : Hp) (vs : List V) (Q : VK) (E : XK), Room k (A.deeper (envOfC qual (defScope st) s.heap.objs.size f cdv)) → sp vs H Q E →
      ∃ t, PSs (cxOf (L2N.CX P w) P w K mg base N qual (defScope st) f cdv A outer s H E) (defBody st) t ∧ t { nx := fun _ G => Q .non G, rt := Q } (L2.start N vs) H) :
    FnOk P w K mg base (L2N.CX P w) (k + 1) f fd ps sp := by
  obtain ⟨oc, od, kV, doc, pm, an, cdv, ct, osl, rfl, lk, hcd⟩ := F.ex
  exact fn_of lk hcd S len fun A outer s H vs Q E hr hsp => body cdv A outer s H vs Q E hr hsp
theorem str_len (a b : Str) : (a ++ b).length = a.length + b.length := by
  show (a.cps ++ b.cps).size = _
  rw [Array.size_append]
  rfl
/-- how a refusal leaves -/
def ErX (A : Ad) (E : XK) (H : Hp) : Er → Prop
  | .hand => E (.ref (A.c 3)) none H
  | .key => E (.ref (A.c 6)) none H
  | .entry => E (.ref (A.c 11)) none H
  | .deal p => ∀ d, H d = none → E (.ref (A.c 2)) (some d) (upd H d (.xd [("place", .int (p : Nat))]))
section
variable {P : Program} {w : World} {K : PySem.W.Frag} {mg : Str → Option Value} {base : Heap} {A : Ad} {B C fI : Addr}
theorem sccheck_hand : FnScope ["hand"] ["hand"] (defScope s_check_hand) := ⟨rfl, rfl, rfl, by decide +kernel, rfl, by decide +kernel, by decide +kernel⟩
def spCk (A : Ad) (hi : Int) (r : Er) : Sp := fun vs H Q E => ∃ n : Int, vs = [.int n] ∧ (inB 0 hi n = true → Q .non H) ∧ (inB 0 hi n = false → ErX A E H r)
theorem ok_check_hand (T : Txt K mg A) : ∃ fd, FnOk P w K mg base (L2N.CX P w) 2 (A.d 23) fd ["hand"] (spCk A 3 .hand) ∧ Binds K fd ["hand"] [] := by
  obtain ⟨fd, F⟩ := T.check_hand.fn
  obtain ⟨fdW, Gwithin, bwithin⟩ := ok_within (P := P) (w := w) (base := base) T
  refine ⟨fd, okN F sccheck_hand (fun vs H Q E h => ?_) (fun cdv Ar outer s H vs Q E hr h => ?_), F.binds fun _ _ _ _ _ _ us hl => match us, hl with | [_], _ => rfl⟩
  · obtain ⟨n, rfl, _⟩ := h
    rfl
  · obtain ⟨n, rfl, k1, k2⟩ := h
    refine ⟨_, (pss_one (ps_if (pt_not (pt_val (pe_call Gwithin (hr.mono (by first | decide | omega)) rfl T.within.at_ T.within.kp bwithin .nil pass0 (pa_cons (pv 0) (pa_cons pe_int (pa_cons (pe_glob (v := .int 3) rfl T.k_LAST_HAND.choose_spec ⟨_, rfl⟩) pa_nil))))))
        (pss_one (L2N.ps_raise rfl (L2N.takes_of rfl rfl rfl rfl) (L2N.pmk_own PySem.F.excBase_ValueError T.x_BadHand.ex T.x_BadHand.at_ T.x_BadHand.kp (raises_own T.x_BadHand.sb T.x_BadHand.ty) rfl)))
        pss_nil)), ?_⟩
    refine ⟨_, rfl, .int n, 0, 3, rfl, .inl ⟨n, rfl, _, rfl, ?_⟩⟩
    cases h : inB 0 3 n with
    | true => exact iteF (k1 h)
    | false => exact iteT (k2 h)
theorem sccheck_key : FnScope ["key"] ["key"] (defScope s_check_key) := ⟨rfl, rfl, rfl, by decide +kernel, rfl, by decide +kernel, by decide +kernel⟩
theorem ok_check_key (T : Txt K mg A) : ∃ fd, FnOk P w K mg base (L2N.CX P w) 2 (A.d 24) fd ["key"] (spCk A 31 .key) ∧ Binds K fd ["key"] [] := by
  obtain ⟨fd, F⟩ := T.check_key.fn
  obtain ⟨fdW, Gwithin, bwithin⟩ := ok_within (P := P) (w := w) (base := base) T
  refine ⟨fd, okN F sccheck_key (fun vs H Q E h => ?_) (fun cdv Ar outer s H vs Q E hr h => ?_), F.binds fun _ _ _ _ _ _ us hl => match us, hl with | [_], _ => rfl⟩
  · obtain ⟨n, rfl, _⟩ := h
    rfl
  · obtain ⟨n, rfl, k1, k2⟩ := h
    refine ⟨_, (pss_one (ps_if (pt_not (pt_val (pe_call Gwithin (hr.mono (by first | decide | omega)) rfl T.within.at_ T.within.kp bwithin .nil pass0 (pa_cons (pv 0) (pa_cons pe_int (pa_cons (pe_glob (v := .int 31) rfl T.k_LAST_KEY.choose_spec ⟨_, rfl⟩) pa_nil))))))
        (pss_one (L2N.ps_raise rfl (L2N.takes_of rfl rfl rfl rfl) (L2N.pmk_own PySem.F.excBase_ValueError T.x_BadKey.ex T.x_BadKey.at_ T.x_BadKey.kp (raises_own T.x_BadKey.sb T.x_BadKey.ty) rfl)))
        pss_nil)), ?_⟩
    refine ⟨_, rfl, .int n, 0, 31, rfl, .inl ⟨n, rfl, _, rfl, ?_⟩⟩
    cases h : inB 0 31 n with
    | true => exact iteF (k1 h)
    | false => exact iteT (k2 h)
/-! ### BadDeal's own __init__ -/
theorem sco_init : Sco "place" (defScope s_BadDeal___init__) := ⟨rfl, rfl, rfl, by decide +kernel, by decide +kernel, by decide +kernel, by decide +kernel, by decide +kernel, by decide +kernel⟩
theorem ok_init16 (T : Txt K mg A) (X : Ex P w K mg A B C fI) (htop : (P.main.scope.names.lookup ("super" : Str)).isSome = false) : ∃ fd, FnOk P w K mg base CX0 1 fI fd [("self" : Str), "place"] (spI (A.c 2) "place") ∧ Binds K fd [("self" : Str), "place"] [] := by
  refine ok_init X.init X.cls sco_init ⟨_, rfl, rfl⟩ rfl (fun Y hN hS => ?_) (fun env => ⟨_, rfl⟩) htop (by decide) (by decide) (fun kV doc pm an cl cdv ct us hl => ?_)
  · refine ⟨fun pins s σ H Q I ⟨v, h1, h2, h3⟩ => ?_⟩
    refine (pe_joined (.cons pe_str (.cons (pe_fmt (pe_var (i := 1) (x := "place") (by rw [hN]; rfl) (by rw [hS]; exact .inl (by decide +kernel)))) (.cons pe_str .nil)))).run pins s σ H Q I ?_
    obtain ⟨h2, h4⟩ := h2
    refine ⟨_, rfl, (by decide +kernel), _, h1, .inr ⟨v, rfl, h2, _, rfl, ?_, _, rfl, ?_, h3 _⟩⟩
    · rw [str_len]
      have : (Str.empty ++ ("no deal: its deed at " : Str)).length ≤ 100 := by decide +kernel
      exact sz _ (by omega)
    · rw [str_len, str_len]
      have : (Str.empty ++ ("no deal: its deed at " : Str)).length ≤ 100 := by decide +kernel
      have : (" is none" : Str).length ≤ 100 := by decide +kernel
      exact sz _ (by omega)
  · match us, hl with
    | [_, _], _ => rfl
theorem sm_small : ∀ p : Nat, p ≤ 4 → Sm (p : Int)
  | 0, _ => ⟨by decide, by decide +kernel⟩
  | 1, _ => ⟨by decide, by decide +kernel⟩
  | 2, _ => ⟨by decide, by decide +kernel⟩
  | 3, _ => ⟨by decide, by decide +kernel⟩
  | 4, _ => ⟨by decide, by decide +kernel⟩
  | n + 5, h => absurd h (by omega)
theorem badFrom_le {p : Nat} : ∀ {ds : List Dd} {i : Nat}, i ≤ 4 → badFrom i ds = some p → p ≤ 4
  | [], _, _, h => by cases h
  | d :: ds, i, hi, h => by
    unfold badFrom at h
    split at h
    · cases h
      exact hi
    · rename_i q
      exact badFrom_le (by omega) h
/-! ### check_deal -/
theorem sccheck_deal : FnScope ["deeds", "place", "deed"] ["deeds"] (defScope s_check_deal) := ⟨rfl, rfl, rfl, by decide +kernel, rfl, by decide +kernel, by decide +kernel⟩
def spCD (A : Ad) : Sp := fun vs H Q E => ∃ (v : V) (ds : List Dd), vs = [v] ∧ DsAt H v ds ∧ ∀ G, Kp No H G → (dealBad ds = none → Q .non G) ∧ ∀ p, dealBad ds = some p → ErX A E G (.deal p)
theorem ok_check_deal (T : Txt K mg A) (X : Ex P w K mg A B C fI) (htop : (P.main.scope.names.lookup ("super" : Str)).isSome = false) : ∃ fd, FnOk P w K mg base (L2N.CX P w) 3 (A.d 26) fd ["deeds"] (spCD A) ∧ Binds K fd ["deeds"] [] := by
  obtain ⟨fd, F⟩ := T.check_deal.fn
  obtain ⟨fdD, Gis_deed, bis_deed⟩ := ok_is_deed (P := P) (w := w) (base := base) T X
  obtain ⟨fdB, GB, bB⟩ := ok_init16 (P := P) (w := w) (base := base) T X htop
  refine ⟨fd, okN F sccheck_deal (fun vs H Q E h => ?_) (fun cdv Ar outer s H vs Q E hr h => ?_), F.binds fun _ _ _ _ _ _ us hl => match us, hl with | [_], _ => rfl⟩
  · obtain ⟨v, ds, rfl, _⟩ := h
    rfl
  · obtain ⟨v, ds, rfl, ⟨a, xs, rfl, ha, pa, hl⟩, k⟩ := h
    have hu := hu_of hr
    have tk : L2N.Takes (cxOf (L2N.CX P w) P w K mg base ["deeds", "place", "deed"] "check_deal" (defScope s_check_deal) (A.d 26) cdv Ar outer s H E) (fun cls d _ G => E cls d G) := L2N.takes_of rfl rfl rfl rfl
    refine ⟨_, (pss_cons (ps_if (pt_not (pt_truth (pv 0) (by intro _; rfl)))
        (pss_one (L2N.ps_raise rfl tk (pmk_sup X.cls X.init GB bB (hr.mono (by first | decide | omega)) rfl T.c_BadDeal pe_int)))
        pss_nil)
      (pss_one (ps_for PassesOwn.leaving rfl (pi_enT (by rfl) T.enumerate (pa_cons (pv 0) pa_nil)) (pg_tup rfl (pgs_cons (pg_name (i := 1) sccheck_deal.nd rfl (Or.inl rfl)) (pgs_cons (pg_name (i := 2) sccheck_deal.nd rfl (Or.inl rfl)) pgs_nil)))
        (pss_one (ps_if (PW.pt (pw_or (pt_cmpR op_eq (pv 1) (pe_glob (v := .int 4) rfl T.k_MOST_DEEDS.choose_spec ⟨_, rfl⟩) (nomark _)) (pw_or1 (pt_not (pt_val (pe_call Gis_deed (hr.mono (by first | decide | omega)) rfl T.is_deed.at_ T.is_deed.kp bis_deed .nil pass0 (pa_cons (pv 2) pa_nil)))))))
          (pss_one (L2N.ps_raise rfl tk (pmk_sup X.cls X.init GB bB (hr.mono (by first | decide | omega)) rfl T.c_BadDeal (pv 1))))
          pss_nil))))), ?_⟩
    have lx := pa.length
    refine ⟨_, rfl, !xs.isEmpty, .inr (.inl ⟨_, SqT.of ha, rfl⟩), ?_⟩
    cases ds with
    | nil =>
      cases pa
      refine iteT ⟨0, rfl, sm_small 0 (by omega), fun d hd => ?_⟩
      exact (k H (Kp.refl _ _)).2 0 rfl d hd
    | cons d0 ds0 =>
      cases xs with
      | nil => cases pa
      | cons x0 xs0 =>
      refine iteF ?_
      generalize hds : d0 :: ds0 = ds at *
      generalize hxs : x0 :: xs0 = xs at *
      have hb0 : dealBad ds = badFrom 0 ds := if_neg (by rw [← hds]; simp)
      rw [hb0] at k
      refine ⟨_, rfl, a, xs, rfl, .inr ⟨SqT.of ha, for_enT (fun i σ G => Kp No H G ∧ (∃ o1 o2, σ = [some (.ref a), o1, o2]) ∧ badFrom 0 ds = badFrom i (ds.drop i) ∧ i ≤ 4) ⟨Kp.refl _ _, ⟨none, none, rfl⟩, by rw [List.drop_zero], by omega⟩ (fun i σ G ⟨kp, _⟩ => SqT.of (kp.t.tup ha)) ?_ ?_⟩⟩
      · rintro i y U σ G hy ⟨kp, ⟨o1, o2, rfl⟩, hbd, h4⟩ hU
        obtain ⟨d, hd, dd⟩ := paired_at pa hy
        have dr : ds.drop i = d :: ds.drop (i + 1) := by
          obtain ⟨h1, h2⟩ := List.getElem?_eq_some_iff.mp hd
          rw [List.drop_eq_getElem_cons h1, h2]
        rw [dr] at hbd
        have kU : Kp No H (upd G U (.tup [.int (i : Nat), y])) := kp.andN hU
        have bad : (i = 4 ∨ d.ok = false) → badFrom 0 ds = some i := fun z => by rw [hbd]; unfold badFrom; rw [if_pos z]
        have raise : ∀ G2, Kp No H G2 → (i = 4 ∨ d.ok = false) → tMkS (A.c 2) "place" (tVar 1) [some (.ref a), some (.int (i : Nat)), some y] G2 (fun cls d H' => E cls d H') := fun G2 k2 z => ⟨_, rfl, i, rfl, sm_small i h4, fun e he => (k G2 k2).2 i (bad z) e he⟩
        refine ⟨U, _, rfl, SqT.of upd_same, rfl, _, _, rfl, _, _, rfl, rfl, ?_⟩
        refine ⟨_, rfl, rfl, _, rfl, ?_⟩
        by_cases e4 : i = 4
        · have : decide (V.int ((i : Nat) : Int) = V.int 4) = true := by rw [e4]; rfl
          rw [this]
          exact iteT (iteT (raise _ kU (.inl e4)))
        · have : decide (V.int ((i : Nat) : Int) = V.int 4) = false := by simp; omega
          rw [this]
          refine iteF ⟨_, rfl, y, d, rfl, dd.kt kU.t, fun G2 k2 => ⟨_, rfl, ?_⟩⟩
          have kp2 : Kp No H G2 := kU.trans k2 fun _ z => False.elim z
          cases hk : d.ok with
          | false => exact iteT (raise _ kp2 (.inr hk))
          | true =>
            refine iteF ⟨kp2, ⟨_, _, rfl⟩, ?_, by omega⟩
            rw [hbd]
            show badFrom i (d :: ds.drop (i + 1)) = _
            rw [badFrom, if_neg (by rw [hk]; simp [e4])]
      · rintro σ G ⟨kp, _, hbd, _⟩
        refine (k G kp).1 ?_
        rw [hbd, List.drop_of_length_le (by omega)]
        rfl
end
end S16

set_option Elab.async false
set_option linter.all false
set_option maxRecDepth 100000
set_option maxHeartbeats 1000000
namespace S16
open PySem PySem.Spec PyProof.Rows L2 K5 SupX
/-- a call of a local name that holds a def: the promise goes with the reading -/
def tCallHd (P : Program) (w : World) (K : PySem.W.Frag) (mg : Str → Option Value) (base : Heap) (k i : Nat) (t : TA) : TE := fun σ H Q => ∃ f sp, σ[i]? = some (some (.ref f)) ∧ Held P w K mg base k f sp ∧ t σ H fun vs H1 => sp vs H1 Q (fun _ _ _ => False)
theorem pe_callHd {X : Cx} {k i : Nat} {x : Str} {p pos : Pos} {e : Expr} {es : List Expr} {t : TA} (hr : Room k X.A) (hN : X.N[i]? = some x) (hv : Vis X.env.scope x) (ha : PA X (e :: es) t)
    (hdb : (x == ("__debug__" : Str)) = false := by decide) (hcd : (x == ("__classdict__" : Str)) = false := by decide)
    (he : starEach (e :: es) X.env = (false, eval e X.env) :: starEach es X.env := by rfl) (hpl : (backTo pos (starEach es X.env)).any (·.1) = false := by rfl) : PE X (.Call (.Name x p) (e :: es) [] pos) (tCallHd X.prog X.w X.K X.mg X.base k i t) := by
  refine ⟨fun pins s σ H Q I ⟨f, sp, hs, hh, ht⟩ => ?_⟩
  obtain ⟨fd, ps, F, hk, hb⟩ := hh.ex
  refine (pe_callL (i := i) (f := f) (sp := sp) (dvs := []) (E := fun _ _ _ => False) F hr hN hv hk hb .nil (fun _ _ _ _ _ _ _ z => z.elim) ha hdb hcd he hpl).run pins s σ H Q I ⟨hs, ?_⟩
  have e0 : (fun (vs : List V) (H1 : Hp) => sp (vs ++ []) H1 Q (fun _ _ _ => False)) = fun vs H1 => sp vs H1 Q (fun _ _ _ => False) := funext fun vs => funext fun H1 => by rw [List.append_nil]
  show t σ H (fun vs H1 => sp (vs ++ []) H1 Q (fun _ _ _ => False))
  rw [e0]
  exact ht
theorem steps_app {m : Int} {g : Rw} : ∀ {ds es : List Dd} {f : Rw}, steps m f ds = some g → steps m f (ds ++ es) = steps m g es
  | [], _, _, h => by
    cases h
    rfl
  | d :: ds, es, f, h => by
    unfold steps at h
    simp only [List.cons_append, steps]
    cases q : step m f d with
    | none => rw [q] at h; cases h
    | some f2 =>
      rw [q] at h
      exact steps_app h
section
variable {P : Program} {w : World} {K : PySem.W.Frag} {mg : Str → Option Value} {base : Heap} {A : Ad} {B C fI : Addr}
theorem act_held (T : Txt K mg A) (X : Ex P w K mg A B C fI) (d : Dd) : ∃ f, PySem.W.nsIn K C d.word = some (some (.ref f)) ∧ Held P w K mg base 3 f (spAct d.word) := by
  have to : ∀ {f : Addr} {fd : FuncData} {wd : Str}, FnOk P w K mg base CX0 3 f fd ["rows", "parts", "moment"] (spAct wd) → PySem.W.keepIn K (.ref f) = true → L2.Binds K fd ["rows", "parts", "moment"] [] → Held P w K mg base 3 f (spAct wd) := fun F k b => ⟨_, _, F, k, b⟩
  cases d with
  | put =>
    obtain ⟨fd, G, b⟩ := ok_put_row (P := P) (w := w) (base := base) T
    exact ⟨_, X.cp, to G T.put_row.kp b⟩
  | drop =>
    obtain ⟨fd, G, b⟩ := ok_drop_row (P := P) (w := w) (base := base) T
    exact ⟨_, X.cr, to G T.drop_row.kp b⟩
  | add =>
    obtain ⟨fd, G, b⟩ := ok_add_to_row (P := P) (w := w) (base := base) T
    exact ⟨_, X.ca, to G T.add_to_row.kp b⟩
  | iff =>
    obtain ⟨fd, G, b⟩ := ok_does_show (P := P) (w := w) (base := base) T
    exact ⟨_, X.ci, to G T.does_show.kp b⟩
theorem scrows_behind : FnScope ["rows", "deeds", "moment", "behind", "word", "parts", "action"] ["rows", "deeds", "moment"] (defScope s_rows_behind) := ⟨rfl, rfl, rfl, by decide +kernel, rfl, by decide +kernel, by decide +kernel⟩
def spRB : Sp := fun vs H Q _ => ∃ (a : Addr) (v : V) (m : Int) (f : Rw) (n : Nat) (ds : List Dd), vs = [.ref a, v, .int m] ∧ RwAt H a f n ∧ DsAt H v ds ∧ n + ds.length ≤ 15000 ∧
  ∀ G, Kp No H G → (steps m f ds = none → Q .non G) ∧ (∀ g b, steps m f ds = some g → H b = none → RwAt G b g (n + ds.length) → Q (.ref b) G)
theorem ok_rows_behind (T : Txt K mg A) (X : Ex P w K mg A B C fI) : ∃ fd, FnOk P w K mg base CX0 4 (A.d 34) fd ["rows", "deeds", "moment"] spRB ∧ Binds K fd ["rows", "deeds", "moment"] [] := by
  obtain ⟨fd, F⟩ := T.rows_behind.fn
  obtain ⟨es, en, hC, hlit⟩ := X.cd
  refine ⟨fd, F.ok scrows_behind (fun vs H Q E h => ?_) (fun cdv Ar outer s H vs Q E hr h => ?_), F.binds fun _ _ _ _ _ _ us hl => match us, hl with | [_, _, _], _ => rfl⟩
  · obtain ⟨a, v, m, f, n, ds, rfl, _⟩ := h
    rfl
  · obtain ⟨a, v, m, f, n, ds, rfl, R, ⟨u, xs, rfl, hu2, pa, hl⟩, hn, k⟩ := h
    have hu := hu_of hr
    refine ⟨_, (pss_cons (ps_set (i := 3) scrows_behind.nd rfl (Or.inl rfl) (pe_callTy call_dictD (by rfl) T.dict (by decide +kernel) (pa_cons (pv 0) pa_nil)))
      (pss_cons (ps_for PassesOwn.never rfl (pi_tup (pv 1)) (pg_star (n := 1) rfl (pgs_cons (pg_name (i := 4) scrows_behind.nd rfl (Or.inl rfl)) (pgs_star (pg_name (i := 5) scrows_behind.nd rfl (Or.inl rfl)))))
        (pss_cons (ps_set (i := 6) scrows_behind.nd rfl (Or.inl rfl) (pe_ix ix_kdict (pe_glob (v := .ref C) rfl X.actions rfl) (pv 4) (fun _ _ => rfl)))
        (pss_one (ps_if (pt_not (pt_val (pe_callHd (i := 6) (k := 3) (hr.mono (by first | decide | omega)) rfl (.inl rfl) (pa_cons (pv 3) (pa_cons (pv 5) (pa_cons (pv 2) pa_nil))))))
          (pss_one (ps_ret pe_non))
          pss_nil))))
      (pss_one (ps_ret (pv 3))))), ?_⟩
    obtain ⟨kvs, hd, hkl, hf⟩ := R
    refine ⟨_, rfl, a, kvs, rfl, .inl hd, fun b nb => ?_⟩
    have kb : Kp No H (upd H b (.dK kvs)) := Kp.new nb
    have R0 : RwAt (upd H b (.dK kvs)) b f n := ⟨kvs, upd_same, hkl, fun j => by
      have := hf j
      cases e : f j with
      | none => rw [e] at this; exact this
      | some p =>
        obtain ⟨w1, e1⟩ := p
        rw [e] at this
        obtain ⟨t, h1, h2⟩ := this
        exact ⟨t, h1, kb.t.tup h2⟩⟩
    refine ⟨_, rfl, u, rfl, ⟨_, SqT.of (kb.t.tup hu2)⟩, for_tup (K := K) (a := u) (xs := xs) (fun i σ G => Kp No H G ∧ (∃ o1 o2 o3, σ = [some (.ref a), some (.ref u), some (.int m), some (.ref b), o1, o2, o3]) ∧ ∃ g, steps m f (ds.take i) = some g ∧ RwAt G b g (n + i)) ⟨kb, ⟨none, none, none, rfl⟩, f, rfl, R0⟩ (fun i σ G _ ⟨kp, _⟩ => SqT.of (kp.t.tup hu2)) ?_ ?_⟩
    · rintro i x σ G hx ⟨kp, ⟨o1, o2, o3, rfl⟩, g, hg, Rg⟩
      obtain ⟨d, hd, t, rfl, ht⟩ := paired_at pa hx
      have hil : i < ds.length := (List.getElem?_eq_some_iff.mp hd).1
      have sp1 : ds = ds.take i ++ d :: ds.drop (i + 1) := by
        obtain ⟨h1, h2⟩ := List.getElem?_eq_some_iff.mp hd
        conv => lhs; rw [← List.take_append_drop i ds]
        rw [List.drop_eq_getElem_cons h1, h2]
      obtain ⟨f1, hf1, hh⟩ := act_held (P := P) (base := base) T X d
      refine ⟨t, _, rfl, SqT.of (kp.t.tup ht), (by show 1 ≤ d.vs.length; simp [Dd.vs]), (by cases d <;> simp [Dd.vs, Dd.parts]), fun L hL => ?_⟩
      refine ⟨_, _, rfl, _, _, rfl, rfl, ?_⟩
      refine ⟨_, rfl, C, d.word, .ref f1, rfl, rfl, ⟨es, en, _, hC, hlit, hf1, rfl⟩, ?_⟩
      have kL : Kp No H (upd G L (.lst d.parts)) := kp.andN hL
      refine ⟨f1, spAct d.word, rfl, hh, _, rfl, _, rfl, _, rfl, b, L, m, g, n + i, d, rfl, rfl, Rg.kt (Kp.new (F := No) hL).t (fun z => z), by omega, upd_same, fun G2 k2 => ⟨fun s0 => ?_, fun g2 s2 R2 => ?_⟩⟩
      · refine ⟨_, rfl, iteT ?_⟩
        refine (k G2 (kL.trans (F' := fun c => c = b) k2 fun c z => .inr (by rw [z]; exact nb))).1 ?_
        rw [sp1, steps_app hg]
        simp only [steps, s0]
      · refine ⟨_, rfl, iteF ⟨kL.trans (F' := fun c => c = b) k2 fun c z => .inr (by rw [z]; exact nb), ⟨_, _, _, rfl⟩, g2, ?_, R2⟩⟩
        rw [take_snoc hd, steps_app hg]
        simp only [steps, s2]
    · rintro σ G ⟨kp, ⟨o1, o2, o3, rfl⟩, g, hg, Rg⟩
      rw [pa.length, List.take_length] at hg
      rw [pa.length] at Rg
      exact ⟨_, rfl, (k G kp).2 g b hg nb Rg⟩
end
end S16

set_option Elab.async false
set_option linter.all false
set_option maxRecDepth 100000
set_option maxHeartbeats 1000000
namespace S16
open PySem PySem.Spec PyProof.Rows L2 K5 SupX
/-- a table: its rows' dict, its moment -/
def TbAt (H : Hp) (v : V) (t : Tb) : Prop := ∃ a r n, v = .ref a ∧ H a = some (.tup [.ref r, .int t.mom]) ∧ RwAt H r t.rows n ∧ n ≤ 14000
theorem TbAt.kt {F : Addr → Prop} {H G : Hp} (k : Kt F H G) {v : V} {t : Tb} (h : TbAt H v t) (nf : ∀ b kvs, H b = some (.dK kvs) → ¬ F b) : TbAt G v t := by
  obtain ⟨a, r, n, e, ha, R, l⟩ := h
  have R' := R
  obtain ⟨kvs, hd, _⟩ := R'
  exact ⟨a, r, n, e, k.tup ha, R.kt k (nf r kvs hd), l⟩
theorem badFrom_none : ∀ {ds : List Dd} {i : Nat}, i ≤ 4 → badFrom i ds = none → i + ds.length ≤ 4
  | [], _, h, _ => h
  | d :: ds, i, h, q => by
    unfold badFrom at q
    split at q
    · cases q
    · rename_i z
      have := badFrom_none (ds := ds) (i := i + 1) (by omega) q
      simp only [List.length_cons]
      omega
theorem dealBad_none {ds : List Dd} (h : dealBad ds = none) : ds.length ≤ 4 := by
  unfold dealBad at h
  split at h
  · cases h
  · have := badFrom_none (by omega) h
    omega
section
variable {P : Program} {w : World} {K : PySem.W.Frag} {mg : Str → Option Value} {base : Heap} {A : Ad} {B C fI : Addr}
theorem sccheck_entry : FnScope ["entry", "moment"] ["entry", "moment"] (defScope s_check_entry) := ⟨rfl, rfl, rfl, by decide +kernel, rfl, by decide +kernel, by decide +kernel⟩
def spCE (A : Ad) : Sp := fun vs H Q E => ∃ (v : V) (m : Int) (e : En), vs = [v, .int m] ∧ EnAt H v e ∧ ∀ G, Kp No H G → (e.bad m = none → Q .non G) ∧ ∀ r, e.bad m = some r → ErX A E G r
theorem ok_check_entry (T : Txt K mg A) (X : Ex P w K mg A B C fI) (htop : (P.main.scope.names.lookup ("super" : Str)).isSome = false) : ∃ fd, FnOk P w K mg base (L2N.CX P w) 4 (A.d 36) fd ["entry", "moment"] (spCE A) ∧ Binds K fd ["entry", "moment"] [] := by
  obtain ⟨fd, F⟩ := T.check_entry.fn
  obtain ⟨fdW, Gwithin, bwithin⟩ := ok_within (P := P) (w := w) (base := base) T
  obtain ⟨fdH, Gcheck_hand, bcheck_hand⟩ := ok_check_hand (P := P) (w := w) (base := base) T
  obtain ⟨fdD, Gcheck_deal, bcheck_deal⟩ := ok_check_deal (P := P) (w := w) (base := base) T X htop
  refine ⟨fd, okN F sccheck_entry (fun vs H Q E h => ?_) (fun cdv Ar outer s H vs Q E hr h => ?_), F.binds fun _ _ _ _ _ _ us hl => match us, hl with | [_, _], _ => rfl⟩
  · obtain ⟨v, m, e, rfl, _⟩ := h
    rfl
  · obtain ⟨v, m, e, rfl, hv, k⟩ := h
    have hu := hu_of hr
    have tk : L2N.Takes (cxOf (L2N.CX P w) P w K mg base ["entry", "moment"] "check_entry" (defScope s_check_entry) (A.d 36) cdv Ar outer s H E) (fun cls d _ G => E cls d G) := L2N.takes_of rfl rfl rfl rfl
    refine ⟨_, (pss_one (ps_if (PW.pt (pw_and (pt_cmpR op_eq (pe_callB call_len_seq (by rfl) T.len PySem.boot_len (pa_cons (pv 0) pa_nil)) pe_int (nomark _)) (pw_and (pt_cmpR op_eq (pe_ix ix_tup (pv 0) pe_int (fun _ _ => rfl)) pe_str (nomark _)) (pw_and1 (pt_val (pe_callB call_isi (by rfl) T.isinstance (by decide +kernel) (pa_cons (pe_ix ix_tup (pv 0) pe_int (fun _ _ => rfl)) (pa_cons (pe_bltn (v := .ty "tuple") (by rfl) T.tuple (by decide +kernel) rfl) pa_nil))))))))
        (pss_cons (ps_expr (pe_call (E := E) Gcheck_hand (hr.mono (by first | decide | omega)) rfl T.check_hand.at_ T.check_hand.kp bcheck_hand .nil (L2N.passes_call tk fun _ _ _ _ h => h) (pa_cons (pe_ix ix_tup (pv 0) pe_int (fun _ _ => rfl)) pa_nil)))
        (pss_one (ps_expr (pe_call (E := E) Gcheck_deal (hr.mono (by first | decide | omega)) rfl T.check_deal.at_ T.check_deal.kp bcheck_deal .nil (L2N.passes_call tk fun _ _ _ _ h => h) (pa_cons (pe_ix ix_tup (pv 0) pe_int (fun _ _ => rfl)) pa_nil)))))
        (pss_one (ps_if (PW.pt (pw_or (pt_cmpR op_ne (pe_callB call_len_seq (by rfl) T.len PySem.boot_len (pa_cons (pv 0) pa_nil)) pe_int (nomark _)) (pw_or (pt_cmpR op_ne (pe_ix ix_tup (pv 0) pe_int (fun _ _ => rfl)) pe_str (nomark _)) (pw_or1 (pt_not (pt_val (pe_call Gwithin (hr.mono (by first | decide | omega)) rfl T.within.at_ T.within.kp bwithin .nil pass0 (pa_cons (pe_ix ix_tup (pv 0) pe_int (fun _ _ => rfl)) (pa_cons (pe_op op_add (pv 1) pe_int) (pa_cons (pe_glob (v := .int 1000000) rfl T.k_LAST_MOMENT.choose_spec ⟨_, rfl⟩) pa_nil))))))))))
          (pss_one (L2N.ps_raise rfl tk (L2N.pmk_own PySem.F.excBase_ValueError T.x_BadEntry.ex T.x_BadEntry.at_ T.x_BadEntry.kp (raises_own T.x_BadEntry.sb T.x_BadEntry.ty) rfl)))
          pss_nil)))), ?_⟩
    have k0 := k H (Kp.refl _ _)
    cases e with
    | deal h ds =>
      obtain ⟨a, dv, rfl, ha, hds⟩ := hv
      have hds' := hds
      obtain ⟨u, us, rfl, hu2, _, _⟩ := hds'
      refine ⟨_, rfl, a, _, rfl, .inr (SqT.of ha), rfl, _, rfl, iteT ?_⟩
      refine ⟨_, rfl, a, _, 0, _, rfl, rfl, SqT.of ha, rfl, rfl, _, rfl, iteT ?_⟩
      refine ⟨_, rfl, a, _, 2, _, rfl, rfl, SqT.of ha, rfl, .ref u, _, _, _, true, rfl, .ty "tuple", .base (.tup hu2), by rfl, true, rfl, iteT ?_⟩
      refine ⟨_, rfl, a, _, 1, .int h, rfl, rfl, SqT.of ha, rfl, h, rfl, fun hi => ?_, fun hi => k0.2 .hand (by simp only [En.bad, hi]; rfl)⟩
      refine ⟨_, rfl, a, _, 2, .ref u, rfl, rfl, SqT.of ha, rfl, .ref u, ds, rfl, hds, fun G kp => ⟨fun q => ?_, fun p q => ?_⟩⟩
      · exact (k G kp).1 (by simp only [En.bad, hi, q, if_true])
      · exact (k G kp).2 (.deal p) (by simp only [En.bad, hi, q, if_true])
    | tick t =>
      obtain ⟨a, rfl, ha⟩ := hv
      refine ⟨_, rfl, a, _, rfl, .inr (SqT.of ha), rfl, _, rfl, iteF (iteF ?_)⟩
      refine ⟨_, rfl, a, _, rfl, .inr (SqT.of ha), rfl, _, rfl, iteF ?_⟩
      refine ⟨_, rfl, a, _, 0, _, rfl, rfl, SqT.of ha, rfl, rfl, _, rfl, iteF ?_⟩
      refine ⟨_, rfl, a, _, 1, .int t, rfl, rfl, SqT.of ha, rfl, _, rfl, _, _, rfl, rfl, .int t, m + 1, 1000000, rfl, .inl ⟨t, rfl, _, rfl, ?_⟩⟩
      cases q : inB (m + 1) 1000000 t with
      | true => exact iteF (k0.1 (by simp only [En.bad, q, if_true]))
      | false => exact iteT (k0.2 .entry (by simp only [En.bad, q]; rfl))
    | odd =>
      have fin : ErX A E H .entry := k0.2 .entry rfl
      obtain ⟨a, xs, rfl, ha, hx⟩ := hv
      rcases hx with rfl | rfl | ⟨dv, ds, rfl, hds⟩
      · refine ⟨_, rfl, a, _, rfl, .inr (SqT.of ha), rfl, _, rfl, iteF (iteF ?_)⟩
        exact ⟨_, rfl, a, _, rfl, .inr (SqT.of ha), rfl, _, rfl, iteT (iteT fin)⟩
      · refine ⟨_, rfl, a, _, rfl, .inr (SqT.of ha), rfl, _, rfl, iteF (iteF ?_)⟩
        exact ⟨_, rfl, a, _, rfl, .inr (SqT.of ha), rfl, _, rfl, iteT (iteT fin)⟩
      · refine ⟨_, rfl, a, _, rfl, .inr (SqT.of ha), rfl, _, rfl, iteT ?_⟩
        refine ⟨_, rfl, a, _, 0, _, rfl, rfl, SqT.of ha, rfl, rfl, _, rfl, iteF (iteF ?_)⟩
        exact ⟨_, rfl, a, _, rfl, .inr (SqT.of ha), rfl, _, rfl, iteT (iteT fin)⟩
theorem scshows : FnScope ["table", "key", "worth", "rows", "moment"] ["table", "key", "worth"] (defScope s_shows) := ⟨rfl, rfl, rfl, by decide +kernel, rfl, by decide +kernel, by decide +kernel⟩
def spShows : Sp := fun vs H Q _ => ∃ (v : V) (j : Int) (x : Option Int) (t : Tb), vs = [v, .int j, oV x] ∧ TbAt H v t ∧ Q (.bl (okW x && decide (seen t.mom t.rows j = x))) H
theorem ok_shows (T : Txt K mg A) : ∃ fd, FnOk P w K mg base CX0 3 (A.d 38) fd ["table", "key", "worth"] spShows ∧ Binds K fd ["table", "key", "worth"] [] := by
  obtain ⟨fd, F⟩ := T.shows.fn
  obtain ⟨fdW, Gwithin, bwithin⟩ := ok_within (P := P) (w := w) (base := base) T
  obtain ⟨fdS, Gshown_worth, bshown_worth⟩ := ok_shown_worth (P := P) (w := w) (base := base) T
  refine ⟨fd, F.ok scshows (fun vs H Q E h => ?_) (fun cdv Ar outer s H vs Q E hr h => ?_), F.binds fun _ _ _ _ _ _ us hl => match us, hl with | [_, _, _], _ => rfl⟩
  · obtain ⟨v, j, x, t, rfl, _⟩ := h
    rfl
  · obtain ⟨v, j, x, t, rfl, ⟨a, r, n, rfl, ha, R, hn⟩, k⟩ := h
    have hu := hu_of hr
    refine ⟨_, (pss_cons (ps_asg (pv 0) (pg_tup rfl (pgs_cons (pg_name (i := 3) scshows.nd rfl (Or.inl rfl)) (pgs_cons (pg_name (i := 4) scshows.nd rfl (Or.inl rfl)) pgs_nil))))
      (pss_cons (ps_if (PW.pt (pw_and (pt_cmp (pc_notN (pv 2))) (pw_and1 (pt_not (pt_val (pe_call Gwithin (hr.mono (by first | decide | omega)) rfl T.within.at_ T.within.kp bwithin .nil pass0 (pa_cons (pv 2) (pa_cons pe_int (pa_cons (pe_glob (v := .int 999) rfl T.k_LAST_WORTH.choose_spec ⟨_, rfl⟩) pa_nil)))))))))
        (pss_one (ps_ret pe_bl))
        pss_nil)
      (pss_one (ps_ret (pe_cmpR op_eq (pe_call Gshown_worth (hr.mono (by first | decide | omega)) rfl T.shown_worth.at_ T.shown_worth.kp bshown_worth .nil pass0 (pa_cons (pv 3) (pa_cons (pv 1) (pa_cons (pv 4) pa_nil)))) (pv 2) (nomark _)))))), ?_⟩
    refine ⟨_, rfl, a, _, rfl, SqT.of ha, rfl, _, _, rfl, _, _, rfl, rfl, ?_⟩
    have last : okW x = true → tRet (tOp rEq (tCall spWorth [] E0 (tCons (tVar 3) (tCons (tVar 1) (tCons (tVar 4) tNil)))) (tVar 2)) { nx := fun _ G => Q .non G, rt := Q } [some (.ref a), some (.int j), some (oV x), some (.ref r), some (.int t.mom)] H := fun hx => by
      refine ⟨_, rfl, _, rfl, _, rfl, r, j, t.mom, t.rows, n, rfl, R, _, rfl, ?_⟩
      rw [hx, Bool.true_and] at k
      refine ⟨?_, ?_⟩
      · cases x <;> cases seen t.mom t.rows j <;> rfl
      · rw [oV_eq]
        exact k
    cases x with
    | none => exact ⟨_, rfl, _, rfl, iteF (iteF (last rfl))⟩
    | some x =>
      refine ⟨_, rfl, _, rfl, iteT ?_⟩
      refine ⟨_, rfl, .int x, 0, 999, rfl, .inl ⟨x, rfl, _, rfl, ?_⟩⟩
      cases q : inB 0 999 x with
      | true => exact iteF (last q)
      | false =>
        have : okW (some x) = false := q
        rw [this] at k
        exact iteT k
end
end S16

set_option Elab.async false
set_option linter.all false
set_option maxRecDepth 100000
set_option maxHeartbeats 2000000
namespace S16
open PySem PySem.Spec PyProof.Rows L2 K5 SupX
theorem split_at {α : Type} {xs : List α} {i : Nat} {x : α} (h : xs[i]? = some x) : xs = xs.take i ++ x :: xs.drop (i + 1) := by
  obtain ⟨h1, h2⟩ := List.getElem?_eq_some_iff.mp h
  conv => lhs; rw [← List.take_append_drop i xs]
  rw [List.drop_eq_getElem_cons h1, h2]
theorem badE_at {s : Tb} {es : List En} {i : Nat} {e : En} (h : es[i]? = some e) (hb : badE s (es.take i) = none) : badE s es = match e.bad (lastT s (es.take i)).mom with
    | some r => some r
    | none => badE ((lastT s (es.take i)).next e) (es.drop (i + 1)) := by
  conv => lhs; rw [split_at h]
  rw [badE_app hb]
  rfl
theorem badE_take {s : Tb} {es : List En} {i : Nat} {e : En} (h : es[i]? = some e) (hb : badE s (es.take i) = none) (he : e.bad (lastT s (es.take i)).mom = none) : badE s (es.take (i + 1)) = none := by
  rw [take_snoc h, badE_app hb]
  simp only [badE, he]
section
variable {P : Program} {w : World} {K : PySem.W.Frag} {mg : Str → Option Value} {base : Heap} {A : Ad} {B C fI : Addr}
theorem sctables_behind : FnScope ["entries", "rows", "moment", "tables", "entry", "behind"] ["entries"] (defScope s_tables_behind) := ⟨rfl, rfl, rfl, by decide +kernel, rfl, by decide +kernel, by decide +kernel⟩
def spTB (A : Ad) : Sp := fun vs H Q E => ∃ (a : Addr) (xs : List V) (es : List En), vs = [.ref a] ∧ H a = some (.lst xs) ∧ Paired (EnAt H) xs es ∧ es.length ≤ 1000 ∧
  ∀ G, Kp No H G → (badE Tb.new es = none → ∀ l ts, H l = none → G l = some (.lst ts) → Paired (TbAt G) ts (tbs Tb.new es) → Q (.ref l) G) ∧ ∀ r, badE Tb.new es = some r → ErX A E G r
theorem ok_tables_behind (T : Txt K mg A) (X : Ex P w K mg A B C fI) (htop : (P.main.scope.names.lookup ("super" : Str)).isSome = false) : ∃ fd, FnOk P w K mg base (L2N.CX P w) 5 (A.d 37) fd ["entries"] (spTB A) ∧ Binds K fd ["entries"] [] := by
  obtain ⟨fd, F⟩ := T.tables_behind.fn
  obtain ⟨fdE, Gcheck_entry, bcheck_entry⟩ := ok_check_entry (P := P) (w := w) (base := base) T X htop
  obtain ⟨fdR, Grows_behind, brows_behind⟩ := ok_rows_behind (P := P) (w := w) (base := base) T X
  refine ⟨fd, okN F sctables_behind (fun vs H Q E h => ?_) (fun cdv Ar outer s H vs Q E hr h => ?_), F.binds fun _ _ _ _ _ _ us hl => match us, hl with | [_], _ => rfl⟩
  · obtain ⟨a, xs, es, rfl, _⟩ := h
    rfl
  · obtain ⟨a, xs, es, rfl, ha, pa, hl, k⟩ := h
    have hu := hu_of hr
    have tk : L2N.Takes (cxOf (L2N.CX P w) P w K mg base ["entries", "rows", "moment", "tables", "entry", "behind"] "tables_behind" (defScope s_tables_behind) (A.d 37) cdv Ar outer s H E) (fun cls d _ G => E cls d G) := L2N.takes_of rfl rfl rfl rfl
    refine ⟨_, (pss_cons (ps_set (i := 1) sctables_behind.nd rfl (Or.inl rfl) pe_dnewK)
      (pss_cons (ps_set (i := 2) sctables_behind.nd rfl (Or.inl rfl) pe_int)
      (pss_cons (ps_set (i := 3) sctables_behind.nd rfl (Or.inl rfl) (pe_lst (pa_cons (pe_tup (pa_cons (pv 1) (pa_cons (pv 2) pa_nil))) pa_nil)))
      (pss_cons (ps_for PassesOwn.leaving rfl (pi_list (pv 0)) (pg_name (i := 4) sctables_behind.nd rfl (Or.inl rfl))
        (pss_cons (ps_expr (pe_call (E := E) Gcheck_entry (hr.mono (by first | decide | omega)) rfl T.check_entry.at_ T.check_entry.kp bcheck_entry .nil (L2N.passes_call tk fun _ _ _ _ h => h) (pa_cons (pv 4) (pa_cons (pv 2) pa_nil))))
        (C8.pss_cut (ps_if (pt_cmpR op_eq (pe_ix ix_tup (pv 4) pe_int (fun _ _ => rfl)) pe_str (nomark _))
          (pss_one (ps_set (i := 2) sctables_behind.nd rfl (Or.inl rfl) (pe_ix ix_tup (pv 4) pe_int (fun _ _ => rfl))))
          (pss_cons (ps_set (i := 5) sctables_behind.nd rfl (Or.inl rfl) (pe_call Grows_behind (hr.mono (by first | decide | omega)) rfl T.rows_behind.at_ T.rows_behind.kp brows_behind .nil pass0 (pa_cons (pv 1) (pa_cons (pe_ix ix_tup (pv 4) pe_int (fun _ _ => rfl)) (pa_cons (pv 2) pa_nil)))))
          (pss_one (ps_set (i := 1) sctables_behind.nd rfl (Or.inl rfl) (pe_ifExp (pt_cmp (pc_isN (pv 5))) (pv 1) (pv 5))))))
        (pss_one (ps_expr (pe_bm PySem.F.plainAttrs_list PySem.F.slot_list_append PySem.F.type_list_append mt_append (pv 3) (pa_cons (pe_tup (pa_cons (pv 1) (pa_cons (pv 2) pa_nil))) pa_nil)))))))
      (pss_one (ps_ret (pv 3))))))), ?_⟩
    refine fun r nr => ⟨_, rfl, _, rfl, sz 2 (by decide), fun t nt => ⟨sz 1 (by decide), fun l nl => ?_⟩⟩
    obtain ⟨nlt, nl1⟩ := upd_none nl
    obtain ⟨nlr, nlH⟩ := upd_none nl1
    obtain ⟨ntr, ntH⟩ := upd_none nt
    have k1 : Kp No H (upd (upd (upd H r (.dK [])) t (.tup [.ref r, .int 0])) l (.lst [.ref t])) := ((Kp.new nr).andN nt).andN nl
    have R0 : RwAt (upd (upd (upd H r (.dK [])) t (.tup [.ref r, .int 0])) l (.lst [.ref t])) r (fun _ => none) 0 := ⟨[], by rw [upd_ne nlr.symm, upd_ne ntr.symm, upd_same], Nat.le_refl _, fun j => rfl⟩
    have T0 : Paired (TbAt (upd (upd (upd H r (.dK [])) t (.tup [.ref r, .int 0])) l (.lst [.ref t]))) [.ref t] (tbs Tb.new (es.take 0)) := by
      rw [List.take_zero]
      exact .cons ⟨t, r, 0, rfl, by rw [upd_ne nlt.symm, upd_same]; rfl, R0, by omega⟩ .nil
    refine ⟨_, rfl, a, rfl, ⟨_, SqL.of (k1.t.lst ha fun z => z)⟩, for_list (K := K) (a := a) (xs := xs)
      (fun i σ G => Kp No H G ∧ badE Tb.new (es.take i) = none ∧ ∃ r ts o1 o2, σ = [some (.ref a), some (.ref r), some (.int (lastT Tb.new (es.take i)).mom), some (.ref l), o1, o2] ∧ H r = none ∧ RwAt G r (lastT Tb.new (es.take i)).rows (4 * i) ∧ G l = some (.lst ts) ∧ ts.length = i + 1 ∧ Paired (TbAt G) ts (tbs Tb.new (es.take i)))
      ⟨k1, by rw [List.take_zero]; rfl, r, [.ref t], none, none, by rw [List.take_zero]; rfl, nr, by rw [List.take_zero]; exact R0, upd_same, rfl, T0⟩ (fun i σ G _ ⟨kp, _⟩ => SqL.of (kp.t.lst ha fun z => z)) ?_ ?_⟩
    · rintro i v σ G hv ⟨kp, hb, r, ts, o1, o2, rfl, nr, R, hG, hts, pT⟩
      obtain ⟨e, he, hve⟩ := paired_at pa hv
      have hil : i < es.length := (List.getElem?_eq_some_iff.mp he).1
      generalize hs : lastT Tb.new (es.take i) = s at *
      have snext : lastT Tb.new (es.take (i + 1)) = s.next e := by rw [take_snoc he, lastT_snoc, hs]
      have tbsn : tbs Tb.new (es.take (i + 1)) = tbs Tb.new (es.take i) ++ [s.next e] := by rw [take_snoc he, tbs_snoc, hs]
      have bad := badE_at he hb
      rw [hs] at bad
      refine ⟨_, rfl, _, rfl, v, s.mom, e, rfl, hve.kt kp.t, fun G2 k2 => ⟨fun hn => ?_, fun rr hrr => ?_⟩⟩
      · have kp2 : Kp No H G2 := kp.trans k2 fun _ z => False.elim z
        have hb2 : badE Tb.new (es.take (i + 1)) = none := badE_take he hb (by rw [hs]; exact hn)
        have hG2 : G2 l = some (.lst ts) := k2.t.lst hG fun z => z
        have R2 : RwAt G2 r s.rows (4 * i) := R.kt k2.t fun z => z
        have pT2 : Paired (TbAt G2) ts (tbs Tb.new (es.take i)) := pT.mono fun _ _ z => z.kt k2.t fun _ _ _ z => z
        refine ⟨fun σ G3 => ∃ r' o, Kp No G2 G3 ∧ H r' = none ∧ RwAt G3 r' (s.next e).rows (4 * (i + 1)) ∧ σ = [some (.ref a), some (.ref r'), some (.int (s.next e).mom), some (.ref l), some v, o], ?_, ?_⟩
        · cases e with
          | tick t =>
            obtain ⟨b, rfl, hb3⟩ := hve.kt kp2.t
            refine ⟨_, rfl, b, _, 0, _, rfl, rfl, SqT.of hb3, rfl, rfl, _, rfl, iteT ?_⟩
            exact ⟨_, rfl, b, _, 1, _, rfl, rfl, SqT.of hb3, rfl, r, o2, Kp.refl _ _, nr, R2.le (by omega), rfl⟩
          | deal h ds =>
            obtain ⟨b, dv, rfl, hb3, hds⟩ := hve.kt kp2.t
            have l4 : ds.length ≤ 4 := by
              simp only [En.bad] at hn
              split at hn
              · cases q : dealBad ds with
                | none => exact dealBad_none q
                | some p => rw [q] at hn; cases hn
              · cases hn
            refine ⟨_, rfl, b, _, 0, _, rfl, rfl, SqT.of hb3, rfl, rfl, _, rfl, iteF ?_⟩
            refine ⟨_, rfl, _, rfl, b, _, 2, _, rfl, rfl, SqT.of hb3, rfl, _, rfl, r, dv, s.mom, s.rows, 4 * i, ds, rfl, R2, hds, by omega, fun G3 k3 => ⟨fun q => ?_, fun g b3 q nb3 Rg => ?_⟩⟩
            · refine ⟨_, rfl, _, rfl, iteT ⟨_, rfl, r, _, k3, nr, ?_, rfl⟩⟩
              simp only [Tb.next, q]
              exact (R2.kt k3.t fun z => z).le (by omega)
            · refine ⟨_, rfl, _, rfl, iteF ⟨_, rfl, b3, _, k3, kp2.free (F := No) nb3 (fun z => False.elim z), ?_, rfl⟩⟩
              simp only [Tb.next, q]
              exact Rg.le (by omega)
          | odd => cases hn
        · -- the end of a turn
          rintro σ G3 ⟨r', o, k3, nr', R3, rfl⟩
          have hG3 : G3 l = some (.lst ts) := k3.t.lst hG2 fun z => z
          have pT3 : Paired (TbAt G3) ts (tbs Tb.new (es.take i)) := pT2.mono fun _ _ z => z.kt k3.t fun _ _ _ z => z
          refine ⟨_, rfl, .inl ⟨rfl, _, SqL.of hG3⟩, _, rfl, _, rfl, sz 2 (by decide), fun u nu => ?_⟩
          have hG4 : upd G3 u (.tup [.ref r', .int (s.next e).mom]) l = some (.lst ts) := by rw [upd_ne (ne_of_none hG3 nu)]; exact hG3
          have k4 : Kp (fun c => c = l) G3 (upd (upd G3 u (.tup [.ref r', .int (s.next e).mom])) l (.lst (ts ++ [.ref u]))) := (Kp.new nu).andL hG4 rfl
          have nl5 : ∀ b kvs, G3 b = some (.dK kvs) → ¬ b = l := fun b kvs e1 e2 => by rw [e2, hG3] at e1; cases e1
          have R3' := R3
          obtain ⟨kvs3, hd3, _⟩ := R3'
          have R4 := R3.kt k4.t (nl5 _ _ hd3)
          have nul : u ≠ l := fun z => by rw [z, hG3] at nu; cases nu
          refine ⟨l, ts, .ref u, rfl, rfl, hG4, szL (by omega), (kp2.trans (k3.trans (F' := No) (F := No) (Kp.refl _ _) fun _ z => False.elim z) fun _ z => False.elim z).trans (F' := fun c => c = l) k4 (fun b z => .inr (by rw [z]; exact nlH)), hb2, r', ts ++ [.ref u], some v, o, by rw [snext], nr', by rw [snext]; exact R4, upd_same, by simp [hts], ?_⟩
          rw [tbsn]
          exact (pT3.mono fun _ _ z => z.kt k4.t nl5).snoc ⟨u, r', 4 * (i + 1), rfl, by rw [upd_ne nul, upd_same], R4, by omega⟩
      · exact (k G2 (kp.trans k2 fun _ z => False.elim z)).2 rr (by rw [bad, hrr])
    · rintro σ G ⟨kp, hb, r, ts, o1, o2, rfl, nr, R, hG, hts, pT⟩
      have e1 : es.take xs.length = es := by rw [pa.length, List.take_length]
      rw [e1] at hb pT
      exact ⟨_, rfl, (k G kp).1 hb l ts nlH hG pT⟩
end
end S16

set_option Elab.async false
set_option linter.all false
set_option maxRecDepth 100000
set_option maxHeartbeats 2000000
namespace S16
open PySem PySem.Spec PyProof.Rows L2 K5 SupX
theorem ixN_in {n : Nat} {i : Int} (h0 : 0 ≤ i) (h1 : i < n) : ixN n i = some i.toNat := by
  unfold ixN
  rw [if_pos h0, if_pos h1]
def oN : Option Nat → V
  | none => .non
  | some i => .int (i : Nat)
theorem badR_at {rs : List Rd} {i : Nat} {r : Rd} (h : rs[i]? = some r) (hb : badR (rs.take i) = none) : badR rs = match r.bad with
    | some e => some e
    | none => badR (rs.drop (i + 1)) := by
  conv => lhs; rw [split_at h]
  rw [badR_app hb]
  rfl
theorem badR_take {rs : List Rd} {i : Nat} {r : Rd} (h : rs[i]? = some r) (hb : badR (rs.take i) = none) (he : r.bad = none) : badR (rs.take (i + 1)) = none := by
  rw [take_snoc h, badR_app hb]
  simp only [badR, he]
/-- the last numbers of hands -/
def LsAt (H : Hp) (d : Addr) (l : Ls) (n : Nat) : Prop := ∃ kvs, H d = some (.dK kvs) ∧ kvs.length ≤ n ∧ ∀ h : Int, (valV kvs (.inl h : Key)).getD (.int 0) = .int (l h)
theorem LsAt.put {H : Hp} {d : Addr} {l : Ls} {n : Nat} {kvs : List (Key × V)} {h x : Int} (q : LsAt H d l n) (hd : H d = some (.dK kvs)) : LsAt (upd H d (.dK (putK kvs (.inl h) (.int x)))) d (l.set h x) (n + 1) := by
  obtain ⟨kv2, e1, l1, f⟩ := q
  obtain rfl : kvs = kv2 := by rw [e1] at hd; cases hd; rfl
  refine ⟨_, upd_same, Nat.le_trans (length_putK _ _ _) (by omega), fun j => ?_⟩
  rw [valV_put]
  unfold Ls.set
  by_cases hj : j = h
  · rw [if_pos hj, if_pos (by rw [hj])]
    rfl
  · rw [if_neg hj, if_neg (fun z => hj (Sum.inl.inj z))]
    exact f j
section
variable {P : Program} {w : World} {K : PySem.W.Frag} {mg : Str → Option Value} {base : Heap} {A : Ad} {B C fI : Addr}
theorem scjudge : FnScope ["entries", "readings", "tables", "hand", "number", "key", "worth", "least", "place"] ["entries", "readings"] (defScope s_judge) := ⟨rfl, rfl, rfl, by decide +kernel, rfl, by decide +kernel, by decide +kernel⟩
def spJ (A : Ad) : Sp := fun vs H Q E => ∃ (a b : Addr) (xs ys : List V) (es : List En) (rs : List Rd), vs = [.ref a, .ref b] ∧ H a = some (.lst xs) ∧ Paired (EnAt H) xs es ∧ es.length ≤ 1000 ∧ H b = some (.lst ys) ∧ Paired (RdAt H) ys rs ∧ rs.length ≤ 1000 ∧
  ∀ G, Kp No H G → (∀ r, badE Tb.new es = some r → ErX A E G r) ∧ (badE Tb.new es = none → (∀ r, badR rs = some r → ErX A E G r) ∧ (badR rs = none → Q (oN (due (tbs Tb.new es) rs)) G))
theorem ok_judge (T : Txt K mg A) (X : Ex P w K mg A B C fI) (htop : (P.main.scope.names.lookup ("super" : Str)).isSome = false) : ∃ fd, FnOk P w K mg base (L2N.CX P w) 6 (A.d 39) fd ["entries", "readings"] (spJ A) ∧ Binds K fd ["entries", "readings"] [] := by
  obtain ⟨fd, F⟩ := T.judge.fn
  obtain ⟨fdT, Gtables_behind, btables_behind⟩ := ok_tables_behind (P := P) (w := w) (base := base) T X htop
  obtain ⟨fdH, Gcheck_hand, bcheck_hand⟩ := ok_check_hand (P := P) (w := w) (base := base) T
  obtain ⟨fdK, Gcheck_key, bcheck_key⟩ := ok_check_key (P := P) (w := w) (base := base) T
  obtain ⟨fdW, Gwithin, bwithin⟩ := ok_within (P := P) (w := w) (base := base) T
  obtain ⟨fdS, Gshows, bshows⟩ := ok_shows (P := P) (w := w) (base := base) T
  refine ⟨fd, okN F scjudge (fun vs H Q E h => ?_) (fun cdv Ar outer s H vs Q E hr h => ?_), F.binds fun _ _ _ _ _ _ us hl => match us, hl with | [_, _], _ => rfl⟩
  · obtain ⟨a, b, xs, ys, es, rs, rfl, _⟩ := h
    rfl
  · obtain ⟨a, b, xs, ys, es, rs, rfl, ha, pa, hla, hb, pb, hlb, k⟩ := h
    have hu := hu_of hr
    have tk : L2N.Takes (cxOf (L2N.CX P w) P w K mg base ["entries", "readings", "tables", "hand", "number", "key", "worth", "least", "place"] "judge" (defScope s_judge) (A.d 39) cdv Ar outer s H E) (fun cls d _ G => E cls d G) := L2N.takes_of rfl rfl rfl rfl
    refine ⟨_, (pss_cons (ps_set (i := 2) scjudge.nd rfl (Or.inl rfl) (pe_call (E := E) Gtables_behind (hr.mono (by first | decide | omega)) rfl T.tables_behind.at_ T.tables_behind.kp btables_behind .nil (L2N.passes_call tk fun _ _ _ _ h => h) (pa_cons (pv 0) pa_nil)))
      (pss_cons (ps_for PassesOwn.leaving rfl (pi_list (pv 1)) (pg_tup rfl (pgs_cons (pg_name (i := 3) scjudge.nd rfl (Or.inl rfl)) (pgs_cons (pg_name (i := 4) scjudge.nd rfl (Or.inl rfl)) (pgs_cons (pg_name (i := 5) scjudge.nd rfl (Or.inl rfl)) (pgs_cons (pg_name (i := 6) scjudge.nd rfl (Or.inl rfl)) pgs_nil)))))
        (pss_cons (ps_expr (pe_call (E := E) Gcheck_hand (hr.mono (by first | decide | omega)) rfl T.check_hand.at_ T.check_hand.kp bcheck_hand .nil (L2N.passes_call tk fun _ _ _ _ h => h) (pa_cons (pv 3) pa_nil)))
        (pss_one (ps_expr (pe_call (E := E) Gcheck_key (hr.mono (by first | decide | omega)) rfl T.check_key.at_ T.check_key.kp bcheck_key .nil (L2N.passes_call tk fun _ _ _ _ h => h) (pa_cons (pv 5) pa_nil))))))
      (pss_cons (ps_set (i := 7) scjudge.nd rfl (Or.inl rfl) pe_dnewK)
      (pss_cons (ps_for PassesOwn.leaving rfl (pi_enT (by rfl) T.enumerate (pa_cons (pv 1) pa_nil)) (pg_tup rfl (pgs_cons (pg_name (i := 8) scjudge.nd rfl (Or.inl rfl)) (pgs_cons (pg_tup rfl (pgs_cons (pg_name (i := 3) scjudge.nd rfl (Or.inl rfl)) (pgs_cons (pg_name (i := 4) scjudge.nd rfl (Or.inl rfl)) (pgs_cons (pg_name (i := 5) scjudge.nd rfl (Or.inl rfl)) (pgs_cons (pg_name (i := 6) scjudge.nd rfl (Or.inl rfl)) pgs_nil))))) pgs_nil)))
        (pss_cons (ps_if (PW.pt (pw_or (pt_not (pt_val (pe_call Gwithin (hr.mono (by first | decide | omega)) rfl T.within.at_ T.within.kp bwithin .nil pass0 (pa_cons (pv 4) (pa_cons (pe_dget2 hu (pv 7) (pv 3) pe_int ⟨rfl, rfl, rfl, rfl⟩) (pa_cons (pe_callB call_len_seq (by rfl) T.len PySem.boot_len (pa_cons (pv 0) pa_nil)) pa_nil)))))) (pw_or1 (pt_not (pt_val (pe_call Gshows (hr.mono (by first | decide | omega)) rfl T.shows.at_ T.shows.kp bshows .nil pass0 (pa_cons (pe_ix ix_list (pv 2) (pv 4) (fun _ _ => rfl)) (pa_cons (pv 5) (pa_cons (pv 6) pa_nil)))))))))
          (pss_one (ps_ret (pv 8)))
          pss_nil)
        (pss_one (ps_dput hu (pv 7) (pv 3) (pv 4) rfl))))
      (pss_one (ps_ret pe_non)))))), ?_⟩
    refine ⟨_, rfl, a, xs, es, rfl, ha, pa, hla, fun G1 k1 => ⟨fun hbE l ts nl hG1 pT1 => ?_, fun r hr2 => (k G1 k1).1 r hr2⟩⟩
    have kk := fun G kp => (k G kp).2 hbE
    refine ⟨_, rfl, b, rfl, ⟨_, SqL.of (k1.t.lst hb fun z => z)⟩, for_list (K := K) (a := b) (xs := ys)
      (fun i σ G => Kp No G1 G ∧ badR (rs.take i) = none ∧ ∃ o3 o4 o5 o6, σ = [some (.ref a), some (.ref b), some (.ref l), o3, o4, o5, o6, none, none])
      ⟨Kp.refl _ _, by rw [List.take_zero]; rfl, none, none, none, none, rfl⟩ (fun i σ G _ ⟨kp, _⟩ => SqL.of (kp.t.lst (k1.t.lst hb fun z => z) fun z => z)) ?_ ?_⟩
    · rintro i y σ G hy ⟨kp, hbR, o3, o4, o5, o6, rfl⟩
      obtain ⟨r, hr2, t, rfl, ht⟩ := paired_at pb hy
      have kH : Kp No H G := k1.trans kp fun _ z => False.elim z
      have bad := badR_at hr2 hbR
      refine ⟨t, _, rfl, SqT.of (kH.t.tup ht), rfl, _, _, rfl, _, _, rfl, _, _, rfl, _, _, rfl, rfl, ?_⟩
      refine ⟨_, rfl, r.hand, rfl, fun h1 => ?_, fun h1 => (kk G kH).1 .hand (by rw [bad]; simp only [Rd.bad, h1]; rfl)⟩
      refine ⟨_, rfl, r.key, rfl, fun h2 => ?_, fun h2 => (kk G kH).1 .key (by rw [bad]; simp only [Rd.bad, h1, h2]; rfl)⟩
      exact ⟨kp, badR_take hr2 hbR (by simp only [Rd.bad, h1, h2, if_true]), _, _, _, _, rfl⟩
    · rintro σ G2 ⟨kp2, hbR, o3, o4, o5, o6, rfl⟩
      rw [pb.length, List.take_length] at hbR
      have fin := fun G kp => (kk G kp).2 hbR
      refine fun d nd => ?_
      have kH2 : Kp No H G2 := k1.trans kp2 fun _ z => False.elim z
      have hb2 : G2 b = some (.lst ys) := kH2.t.lst hb fun z => z
      have ha2 : G2 a = some (.lst xs) := kH2.t.lst ha fun z => z
      have hl2 : G2 l = some (.lst ts) := kp2.t.lst hG1 fun z => z
      have pT2 : Paired (TbAt G2) ts (tbs Tb.new es) := pT1.mono fun _ _ z => z.kt kp2.t fun _ _ _ z => z
      have kd : Kp (fun c => c = d) G2 (upd G2 d (.dK [])) := Kp.new nd
      have up : ∀ {G}, Kp (fun c => c = d) G2 G → Kp No H G := fun kp => kH2.trans (kp_fresh (F' := No) kp fun c z => by rw [z]; exact nd) fun _ z => False.elim z
      have lt : ∀ {c : Addr} {zs : List V} {G : Hp}, Kp (fun c => c = d) G2 G → G2 c = some (.lst zs) → G c = some (.lst zs) := fun kp e => kp.t.lst e (ne_of_none e nd)
      refine ⟨_, rfl, b, ys, rfl, .inl ⟨SqL.of (lt kd hb2), for_enT (fun i σ G => Kp (fun c => c = d) G2 G ∧ (∃ o3 o4 o5 o6 o8, σ = [some (.ref a), some (.ref b), some (.ref l), o3, o4, o5, o6, some (.ref d), o8]) ∧ ∃ ls, LsAt G d ls i ∧ (∀ h, 0 ≤ ls h) ∧ due (tbs Tb.new es) rs = dueFrom (tbs Tb.new es) ls i (rs.drop i))
        ⟨kd, ⟨_, _, _, _, _, rfl⟩, fun _ => 0, ⟨[], upd_same, Nat.le_refl _, fun _ => rfl⟩, fun _ => Int.le_refl _, rfl⟩ (fun i σ G ⟨kp, _⟩ => SqL.of (lt kp hb2)) ?_ ?_⟩⟩
      · rintro i y U σ G hy ⟨kp, ⟨o3, o4, o5, o6, o8, rfl⟩, ls, hls, pos, hdue⟩ hU
        obtain ⟨r, hr2, t, rfl, ht⟩ := paired_at pb hy
        have hil : i < rs.length := (List.getElem?_eq_some_iff.mp hr2).1
        have dr : rs.drop i = r :: rs.drop (i + 1) := by
          obtain ⟨h1, h2⟩ := List.getElem?_eq_some_iff.mp hr2
          rw [List.drop_eq_getElem_cons h1, h2]
        rw [dr] at hdue
        have kU : Kp (fun c => c = d) G2 (upd G U (.tup [.int (i : Nat), .ref t])) := kp.andN hU
        have hlsU : LsAt (upd G U (.tup [.int (i : Nat), .ref t])) d ls i := by
          obtain ⟨kvs, e1, e2, e3⟩ := hls
          exact ⟨kvs, by rw [upd_ne (ne_of_none e1 hU)]; exact e1, e2, e3⟩
        have hlsU' := hlsU
        obtain ⟨kvs, hd, hkl, hval⟩ := hlsU'
        have stop : fits (tbs Tb.new es) ls r = false → Q (.int ((i : Nat) : Int)) (upd G U (.tup [.int (i : Nat), .ref t])) := fun z => by
          have := fin _ (up kU)
          rw [hdue] at this
          unfold dueFrom at this
          rw [if_neg (by rw [z]; decide)] at this
          exact this
        have go : fits (tbs Tb.new es) ls r = true → due (tbs Tb.new es) rs = dueFrom (tbs Tb.new es) (ls.set r.hand r.num) (i + 1) (rs.drop (i + 1)) := fun z => by
          rw [hdue]
          conv => lhs; unfold dueFrom
          rw [if_pos z]
        have lenT : ((tbs Tb.new es).length : Int) - 1 = es.length := by rw [tbs_length]; omega
        refine ⟨U, _, rfl, SqT.of upd_same, rfl, _, _, rfl, _, _, rfl, ⟨t, _, rfl, SqT.of ((up kU).t.tup ht), rfl, _, _, rfl, _, _, rfl, _, _, rfl, _, _, rfl, rfl, rfl, ?_⟩⟩
        refine ⟨_, rfl, _, rfl, d, rfl, .inl ⟨kvs, .inl hd⟩, _, rfl, _, DGet.k (k := Sum.inl r.hand) hd, _, rfl, a, _, rfl, .inl (SqL.of (lt kU ha2)), .int r.num, ls r.hand, es.length, by rw [hval, pa.length]; rfl, .inl ⟨r.num, rfl, _, rfl, ?_⟩⟩
        cases hin : inB (ls r.hand) es.length r.num with
        | false =>
          refine iteT (iteT ⟨_, rfl, stop ?_⟩)
          unfold fits
          rw [lenT, hin]
          rfl
        | true =>
          obtain ⟨n0, n1⟩ := inB_t.mp hin
          have n2 := pos r.hand
          have hlt : r.num.toNat < ts.length := by rw [pT2.length, tbs_length]; omega
          obtain ⟨tb, htb, tba⟩ := paired_at pT2 (List.getElem?_eq_getElem hlt)
          refine iteF ⟨_, rfl, _, rfl, l, ts, r.num, ts[r.num.toNat], rfl, rfl, SqL.of (lt kU hl2), ?_, _, rfl, _, rfl, ts[r.num.toNat], r.key, r.worth, tb, rfl, tba.kt kU.t (fun c kv e1 e2 => by rw [e2, nd] at e1; cases e1), _, rfl, ?_⟩
          · unfold atI
            rw [ixN_in (by omega) (by omega)]
            exact List.getElem?_eq_getElem hlt
          · have fq : fits (tbs Tb.new es) ls r = (okW r.worth && decide (seen tb.mom tb.rows r.key = r.worth)) := by
              unfold fits
              rw [lenT, hin, htb]
              rfl
            cases hsh : (okW r.worth && decide (seen tb.mom tb.rows r.key = r.worth)) with
            | false => exact iteT ⟨_, rfl, stop (fq.trans hsh)⟩
            | true =>
              refine iteF ⟨_, rfl, _, rfl, _, rfl, d, _, rfl, DPut.k (k := Sum.inl r.hand) hd (szL (by omega)), ?_⟩
              refine ⟨kU.andD hd rfl, ⟨_, _, _, _, _, rfl⟩, ls.set r.hand r.num, hlsU.put hd, fun j => ?_, go (fq.trans hsh)⟩
              unfold Ls.set
              split
              · omega
              · exact pos j
      · rintro σ G ⟨kp, ⟨o3, o4, o5, o6, o8, rfl⟩, ls, hls, pos, hdue⟩
        have e0 : rs.drop ys.length = [] := List.drop_of_length_le (by rw [pb.length]; exact Nat.le_refl _)
        rw [e0] at hdue
        have := fin _ (up kp)
        rw [hdue] at this
        exact this
end
end S16

set_option Elab.async false
set_option linter.all false
set_option maxRecDepth 100000
set_option maxHeartbeats 1000000
namespace S16
open PySem PySem.Spec PyProof.Rows L2 K5 SupX
theorem lay_ints : ∀ ns : List Int, PyData.canLayAll0 (ns.map PyData.int) = true ∧ PyData.depthAll (ns.map PyData.int) = 0
  | [] => ⟨by simp only [List.map_nil, PyData.canLayAll0], by simp only [List.map_nil, PyData.depthAll]⟩
  | n :: ns => by
    obtain ⟨h1, h2⟩ := lay_ints ns
    exact ⟨by simp only [List.map_cons, PyData.canLayAll0, PyData.canLay0, h1, Bool.and_self], by simp only [List.map_cons, PyData.depthAll, PyData.depth, h2]; rfl⟩
theorem dp_ints {K : PySem.W.Frag} {H : Hp} : ∀ ns : List Int, DpAll K H (ns.map V.int) (ns.map PyData.int)
  | [] => .nil
  | n :: ns => .cons (.int n) (dp_ints ns)
theorem shaped_of {d : PyData} (h1 : d.canLay0 = true) (h2 : d.depth ≤ 64) : SeqAt.shaped d = true := by
  unfold SeqAt.shaped
  rw [h1, decide_eq_true h2]
  rfl
theorem shaped_ints (ns : List Int) : SeqAt.shaped (.list (ns.map PyData.int)) = true := by
  obtain ⟨h1, h2⟩ := lay_ints ns
  exact shaped_of (by simp only [PyData.canLay0]; exact h1) (by simp only [PyData.depth, h2]; omega)
theorem shaped_nil : SeqAt.shaped (.list []) = true := shaped_ints []
theorem eqv_nil (ds : List PyData) : PyData.eqv (.list ds) (.list []) = ds.isEmpty := by
  cases ds with
  | nil => simp only [PyData.eqv, PyData.eqvAll, List.isEmpty_nil]
  | cons d ds => simp only [PyData.eqv, PyData.eqvAll, List.isEmpty_cons]
/-- the numbers that the law draws from: the rest of the script at bi, a number -/
structure BoxAt (H : Hp) (bx bi : Addr) : Prop where
  ex : ∃ (ns : List Int) (st : Int), H bx = some (.lst [.ref bi, .int st]) ∧ H bi = some (.lst (ns.map V.int)) ∧ ns.length ≤ 63
  ne : bx ≠ bi
def bF (bx bi : Addr) : Addr → Prop := fun b => b = bx ∨ b = bi
theorem BoxAt.kt {F : Addr → Prop} {H G : Hp} {bx bi : Addr} (k : Kt F H G) (b : BoxAt H bx bi) (n : ∀ a, F a → ¬ bF bx bi a) : BoxAt G bx bi := by
  obtain ⟨ns, st, h1, h2, h3⟩ := b.ex
  exact ⟨⟨ns, st, k.lst h1 fun z => n _ z (.inl rfl), k.lst h2 fun z => n _ z (.inr rfl), h3⟩, b.ne⟩
section
variable {P : Program} {w : World} {K : PySem.W.Frag} {mg : Str → Option Value} {base : Heap} {A : Ad}
theorem sctake : FnScope ["_law_box", "_law_many", "_law_number"] ["_law_box", "_law_many"] (defScope s_take) := ⟨rfl, rfl, rfl, by decide +kernel, rfl, by decide +kernel, by decide +kernel⟩
def spTake : Sp := fun vs H Q _ => ∃ bx bi n, vs = [.ref bx, .int n] ∧ BoxAt H bx bi ∧ 0 < n ∧ n.natAbs < 2 ^ 90 ∧ ∀ r G, 0 ≤ r → r < n → BoxAt G bx bi → Kp (bF bx bi) H G → Q (.int r) G
theorem ok_take (T : Txt K mg A) : ∃ fd, FnOk P w K mg base CX0 1 (A.d 42) fd ["_law_box", "_law_many"] spTake ∧ Binds K fd ["_law_box", "_law_many"] [] := by
  obtain ⟨fd, F⟩ := T.take.fn
  refine ⟨fd, F.ok sctake (fun vs H Q E h => ?_) (fun cdv Ar outer s H vs Q E hr h => ?_), F.binds fun _ _ _ _ _ _ us hl => match us, hl with | [_, _], _ => rfl⟩
  · obtain ⟨bx, bi, n, rfl, _⟩ := h
    rfl
  · obtain ⟨bx, bi, n, rfl, B, hn, hw, k⟩ := h
    obtain ⟨ns, st, h1, h2, h3⟩ := B.ex
    refine ⟨_, (pss_cons (ps_if (pt_cmpR (op_eqD hr.units) (pe_ix ix_list (pv 0) pe_int (fun _ _ => rfl)) (pe_lst pa_nil) (nomark _))
        (pss_cons (ps_asg (pe_op op_mod (pe_op op_mul (pe_ix ix_list (pv 0) pe_int (fun _ _ => rfl)) pe_int) pe_int) (pg_sub (pv 0) pe_int set_list))
        (pss_one (ps_ret (pe_op op_mod (pe_op op_fdiv (pe_ix ix_list (pv 0) pe_int (fun _ _ => rfl)) pe_int) (pv 1)))))
        pss_nil)
      (pss_cons (ps_set (i := 2) sctake.nd rfl (Or.inl rfl) (pe_ix ix_list (pe_ix ix_list (pv 0) pe_int (fun _ _ => rfl)) pe_int (fun _ _ => rfl)))
      (pss_cons (ps_asg (pe_op op_fdivW (pv 2) (pv 1)) (pg_sub (pe_ix ix_list (pv 0) pe_int (fun _ _ => rfl)) pe_int set_list))
      (pss_cons (ps_if (PW.pt (pw_or (pt_cmpR op_eq (pe_ix ix_list (pe_ix ix_list (pv 0) pe_int (fun _ _ => rfl)) pe_int (fun _ _ => rfl)) pe_int (nomark _)) (pw_or1 (pt_cmpR op_eq (pe_ix ix_list (pe_ix ix_list (pv 0) pe_int (fun _ _ => rfl)) pe_int (fun _ _ => rfl)) (pe_un un_neg pe_int) (nomark _)))))
        (pss_one (ps_expr (pe_bm PySem.F.plainAttrs_list PySem.F.slot_list_pop PySem.F.type_list_pop mt_popAt (pe_ix ix_list (pv 0) pe_int (fun _ _ => rfl)) (pa_cons pe_int pa_nil))))
        pss_nil)
      (pss_one (ps_ret (pe_op op_mod (pv 2) (pv 1)))))))), ?_⟩
    -- if _law_box[0] == []
    refine ⟨_, rfl, bx, _, 0, .ref bi, rfl, rfl, SqL.of h1, rfl, Nat.zero_le _, fun e ne => ?_⟩
    have g1 : upd H e (.lst []) bx = some (.lst [.ref bi, .int st]) := by rw [upd_ne (ne_of_none h1 ne)]; exact h1
    have g2 : upd H e (.lst []) bi = some (.lst (ns.map V.int)) := by rw [upd_ne (ne_of_none h2 ne)]; exact h2
    have k0 : Kp (bF bx bi) H (upd H e (.lst [])) := Kp.new ne
    refine ⟨_, _, .lst (SqL.of g2) (dp_ints ns), .lst (SqL.of upd_same) .nil, shaped_ints ns, shaped_nil, _, rfl, ?_⟩
    rw [eqv_nil]
    cases ns with
    | nil =>
      refine iteT ?_
      refine ⟨_, rfl, bx, _, 1, .int st, rfl, rfl, SqL.of g1, rfl, _, _, rfl, rfl, .inr (by decide), _, _, rfl, rfl, by show (0 : Int) < 2147483647; decide, _, rfl, bx, _, 1, 1, rfl, rfl, g1, rfl, ?_⟩
      refine ⟨_, rfl, bx, _, 1, _, rfl, rfl, SqL.of upd_same, rfl, _, _, rfl, rfl, ⟨by decide, by decide⟩, _, rfl, _, _, rfl, rfl, hn, ?_⟩
      refine k _ _ (Int.emod_nonneg _ (by omega)) (Int.emod_lt_of_pos _ hn) ⟨⟨[], _, upd_same, by rw [upd_ne B.ne.symm]; exact g2, Nat.zero_le _⟩, B.ne⟩ (k0.andL g1 (.inl rfl))
    | cons n0 ns =>
      refine iteF ?_
      have hf : ∀ a : Int, 0 ≤ a % n ∧ a % n < n := fun a => ⟨Int.emod_nonneg _ (by omega), Int.emod_lt_of_pos _ hn⟩
      refine ⟨_, rfl, bx, _, 0, .ref bi, rfl, rfl, SqL.of g1, rfl, bi, _, 0, .int n0, rfl, rfl, SqL.of g2, atI_nat (j := 0) rfl, ?_⟩
      refine ⟨_, rfl, _, rfl, _, _, rfl, rfl, wide_div hn hw (by decide) (by decide), _, rfl, bx, _, 0, .ref bi, rfl, rfl, SqL.of g1, rfl, bi, _, 0, 0, rfl, rfl, g2, ixN_in (by decide) (by simp only [List.length_map, List.length_cons]; omega), ?_⟩
      have k1 := k0.andL (o' := .lst (V.int (n0 / n) :: ns.map V.int)) g2 (.inr rfl)
      have j1 : upd (upd H e (.lst [])) bi (.lst (V.int (n0 / n) :: ns.map V.int)) bx = some (.lst [.ref bi, .int st]) := by rw [upd_ne B.ne]; exact g1
      have fin1 : BoxAt (upd (upd H e (.lst [])) bi (.lst (V.int (n0 / n) :: ns.map V.int))) bx bi := ⟨⟨n0 / n :: ns, st, j1, upd_same, h3⟩, B.ne⟩
      have last : ∀ (σ : L2.St) (J : Hp), σ = [some (.ref bx), some (.int n), some (.int n0)] → BoxAt J bx bi → Kp (bF bx bi) H J → tRet (tOp (rI (fun _ j => 0 < j) fun i j => .int (i % j)) (tVar 2) (tVar 1)) { nx := fun _ G => Q .non G, rt := Q } σ J := fun σ J e b kj => by
        subst e
        exact ⟨_, rfl, _, rfl, _, _, rfl, rfl, hn, k _ _ (hf n0).1 (hf n0).2 b kj⟩
      have pop : tDrop (tBM K "list" rPopAt (tOp (rIxL K) (tVar 0) (tC (.int 0))) (tCons (tC (.int 0)) tNil)) { nx := tRet (tOp (rI (fun _ j => 0 < j) fun i j => .int (i % j)) (tVar 2) (tVar 1)) { nx := fun _ G => Q .non G, rt := Q }, rt := Q } [some (.ref bx), some (.int n), some (.int n0)] (upd (upd H e (.lst [])) bi (.lst (V.int (n0 / n) :: ns.map V.int))) := by
        refine ⟨_, rfl, bx, _, 0, .ref bi, rfl, rfl, SqL.of j1, rfl, .inl ⟨rfl, _, SqL.of upd_same⟩, bi, _, 0, 0, V.int (n0 / n), rfl, rfl, upd_same, by decide, by decide, ?_, rfl, ?_⟩
        · exact (ixN_seq (ixN_in (by decide) (by simp only [List.length_map, List.length_cons]; omega))).1
        · refine last _ _ rfl ⟨⟨ns, st, by rw [upd_ne B.ne]; exact j1, upd_same, by rw [List.length_cons] at h3; omega⟩, B.ne⟩ (k1.andL upd_same (.inr rfl))
      refine ⟨_, rfl, bx, _, 0, .ref bi, rfl, rfl, SqL.of j1, rfl, bi, _, 0, .int (n0 / n), rfl, rfl, SqL.of upd_same, atI_nat (j := 0) rfl, rfl, _, rfl, ?_⟩
      refine ite2 (fun _ => iteT pop) (fun _ => ?_)
      refine ⟨_, rfl, bx, _, 0, .ref bi, rfl, rfl, SqL.of j1, rfl, bi, _, 0, .int (n0 / n), rfl, rfl, SqL.of upd_same, atI_nat (j := 0) rfl, 1, rfl, rfl, _, rfl, ?_⟩
      exact ite2 (fun _ => pop) (fun _ => last _ _ rfl fin1 k1)
/-! ### begun -/
theorem scbegun : FnScope ["_law_script", "_law_stirred", "_law_cell"] ["_law_script"] (defScope s_begun) := ⟨rfl, rfl, rfl, by decide +kernel, rfl, by decide +kernel, by decide +kernel⟩
def spBegun (K : PySem.W.Frag) : Sp := fun vs H Q _ => ∃ (a : Addr) (ns : List Int), vs = [.ref a] ∧ SqL K H a (ns.map V.int) ∧ ns.length ≤ 63 ∧ ∀ G bx bi, H bx = none → H bi = none → BoxAt G bx bi → Kp No H G → Q (.ref bx) G
theorem ok_begun (T : Txt K mg A) : ∃ fd, FnOk P w K mg base CX0 1 (A.d 41) fd ["_law_script"] (spBegun K) ∧ Binds K fd ["_law_script"] [] := by
  obtain ⟨fd, F⟩ := T.begun.fn
  refine ⟨fd, F.ok scbegun (fun vs H Q E h => ?_) (fun cdv Ar outer s H vs Q E hr h => ?_), F.binds fun _ _ _ _ _ _ us hl => match us, hl with | [_], _ => rfl⟩
  · obtain ⟨a, ns, rfl, _⟩ := h
    rfl
  · obtain ⟨a, ns, rfl, hS, hl, k⟩ := h
    refine ⟨_, (pss_cons (ps_set (i := 1) scbegun.nd rfl (Or.inl rfl) pe_int)
      (pss_cons (ps_for PassesOwn.never rfl (pi_list (pv 0)) (pg_name (i := 2) scbegun.nd rfl (Or.inl rfl))
        (pss_one (ps_set (i := 1) scbegun.nd rfl (Or.inl rfl) (pe_op op_mod (pe_op op_add (pe_op op_add (pe_op op_mul (pv 1) pe_int) (pe_op op_mul (pv 2) pe_int)) pe_int) pe_int))))
      (pss_one (ps_ret (pe_lst (pa_cons (pe_callTy call_list_of (by rfl) T.list (by decide +kernel) (pa_cons (pv 0) pa_nil)) (pa_cons (pe_op op_mul (pv 1) (pe_callTy call_int1 (by rfl) T.int (by decide +kernel) (pa_cons (pe_cmpR op_gt (pe_callB call_len_seq (by rfl) T.len PySem.boot_len (pa_cons (pv 0) pa_nil)) pe_int (nomark _)) pa_nil))) pa_nil))))))), ?_⟩
    refine ⟨_, rfl, a, rfl, ⟨_, hS⟩, for_list (K := K) (a := a) (xs := ns.map V.int) (fun i σ G => G = H ∧ ∃ st o, σ = [some (.ref a), some (.int st), o] ∧ 0 ≤ st ∧ st < 2147483647) ⟨rfl, 0, none, rfl, by decide, by decide⟩ (fun i σ G _ ⟨e, _⟩ => by rw [e]; exact hS) ?_ ?_⟩
    · rintro i y σ G hi ⟨rfl, st, o, rfl, h0, h1⟩
      obtain ⟨z, rfl⟩ : ∃ z, y = V.int z := by
        rw [List.getElem?_map] at hi
        cases e : ns[i]? with
        | none =>
          rw [e] at hi
          cases hi
        | some z =>
          rw [e] at hi
          exact ⟨z, (Option.some.inj hi).symm⟩
      refine ⟨_, rfl, _, _, rfl, rfl, .inr (by decide), _, rfl, _, _, rfl, rfl, .inr (by decide), _, _, rfl, rfl, _, _, rfl, rfl, _, _, rfl, rfl, by show (0 : Int) < 2147483647; decide, ?_⟩
      exact ⟨rfl, _, _, rfl, Int.emod_nonneg _ (by decide), Int.emod_lt_of_pos _ (by decide)⟩
    · rintro σ G ⟨rfl, st, o, rfl, h0, h1⟩
      refine ⟨_, rfl, a, _, rfl, .inl hS, fun bi nbi => ?_⟩
      have hS2 : SqL K (upd G bi (.lst (ns.map V.int))) a (ns.map V.int) := Same.seq (fun b o e => by rw [upd_ne (ne_of_none e nbi)]; exact e) hS
      refine ⟨_, rfl, _, rfl, a, _, rfl, .inl hS2, _, _, rfl, rfl, .inr ⟨_, rfl, _, _, rfl, rfl, .inl ⟨by omega, by omega⟩, sz 2 (by decide), fun bx nbx => ?_⟩⟩
      obtain ⟨nxi, nbx'⟩ := upd_none nbx
      exact k _ bx bi nbx' nbi ⟨⟨ns, _, upd_same, by rw [upd_ne nxi.symm, upd_same], hl⟩, nxi⟩ ((Kp.new (F := No) nbi).andN nbx)
end
end S16

set_option Elab.async false
set_option linter.all false
set_option maxRecDepth 100000
set_option maxHeartbeats 1000000
/-! ### the law's own tables -/
namespace S16
open PySem PySem.Spec PyProof.Rows L2 K5 SupX
def ofs (r h : Addr) (m num : Int) : List (Key × V) := [(.inr "rows", .ref r), (.inr "hands", .ref h), (.inr "moment", .int m), (.inr "number", .int num)]
def HdAt (H : Hp) (h : Addr) (g : Ls) (n : Nat) : Prop := ∃ kvs, H h = some (.dK kvs) ∧ kvs.length ≤ n ∧ ∀ j : Int, match valV kvs (.inl j : Key) with
  | none => g j = 0
  | some v => ∃ t num b, v = .ref t ∧ H t = some (.tup [.int (g j), .int num, .bl b])
structure StAt (H : Hp) (s r h : Addr) (t : Tb) (g : Ls) (num : Int) (n : Nat) : Prop where
  dc : H s = some (.dK (ofs r h t.mom num))
  rows : RwAt H r t.rows n
  hands : HdAt H h g n
  sr : s ≠ r
  sh : s ≠ h
  rh : r ≠ h
theorem HdAt.kt {F : Addr → Prop} {H G : Hp} (k : Kt F H G) {a : Addr} {g : Ls} {n : Nat} (h : HdAt H a g n) (nf : ¬ F a) : HdAt G a g n := by
  obtain ⟨kvs, e, l, q⟩ := h
  refine ⟨kvs, k.dK e nf, l, fun j => ?_⟩
  have := q j
  cases hf : valV kvs (.inl j : Key) with
  | none =>
    rw [hf] at this
    exact this
  | some v =>
    rw [hf] at this
    obtain ⟨t, num, b, h1, h2⟩ := this
    exact ⟨t, num, b, h1, k.tup h2⟩
theorem HdAt.le {H : Hp} {a : Addr} {g : Ls} {n m : Nat} (h : HdAt H a g n) (l : n ≤ m) : HdAt H a g m := let ⟨kvs, e, q, r⟩ := h; ⟨kvs, e, Nat.le_trans q l, r⟩
theorem HdAt.put {H : Hp} {a t : Addr} {g : Ls} {n : Nat} {kvs : List (Key × V)} {j x num : Int} {b : Bool} (h : HdAt H a g n) (hd : H a = some (.dK kvs)) (ht : H t = some (.tup [.int x, .int num, .bl b])) : HdAt (upd H a (.dK (putK kvs (.inl j) (.ref t)))) a (g.set j x) (n + 1) := by
  obtain ⟨kv2, e1, l, q⟩ := h
  obtain rfl : kvs = kv2 := by rw [e1] at hd; cases hd; rfl
  have nt : ∀ {t : Addr} {xs : List V}, H t = some (.tup xs) → t ≠ a := fun h => ne_of h e1 (by intro z; cases z)
  refine ⟨_, upd_same, Nat.le_trans (length_putK _ _ _) (by omega), fun i => ?_⟩
  rw [valV_put]
  unfold Ls.set
  by_cases hj : i = j
  · rw [if_pos hj, if_pos (by rw [hj])]
    exact ⟨t, num, b, rfl, by rw [upd_ne (nt ht)]; exact ht⟩
  · rw [if_neg hj, if_neg (fun z => hj (Sum.inl.inj z))]
    have := q i
    cases hf : valV kvs (.inl i : Key) with
    | none =>
      rw [hf] at this
      exact this
    | some v =>
      rw [hf] at this
      obtain ⟨t', num', b', h1, h2⟩ := this
      exact ⟨t', num', b', h1, by rw [upd_ne (nt h2)]; exact h2⟩
theorem HdAt.dc {H : Hp} {a : Addr} {g : Ls} {n : Nat} (h : HdAt H a g n) : ∃ kvs, H a = some (.dK kvs) := let ⟨kvs, e, _⟩ := h; ⟨kvs, e⟩
theorem RwAt.dc {H : Hp} {a : Addr} {f : Rw} {n : Nat} (h : RwAt H a f n) : ∃ kvs, H a = some (.dK kvs) := let ⟨kvs, e, _⟩ := h; ⟨kvs, e⟩
theorem StAt.kt {F : Addr → Prop} {H G : Hp} (k : Kt F H G) {s r h : Addr} {t : Tb} {g : Ls} {num : Int} {n : Nat} (S : StAt H s r h t g num n) (nf : ∀ b kvs, H b = some (.dK kvs) → ¬ F b) : StAt G s r h t g num n := by
  obtain ⟨k1, e1⟩ := S.rows.dc
  obtain ⟨k2, e2⟩ := S.hands.dc
  exact ⟨k.dK S.dc (nf _ _ S.dc), S.rows.kt k (nf _ _ e1), S.hands.kt k (nf _ _ e2), S.sr, S.sh, S.rh⟩
theorem o_rows {r h : Addr} {m num : Int} : valV (ofs r h m num) (.inr "rows" : Key) = some (.ref r) := rfl
theorem o_hands {r h : Addr} {m num : Int} : valV (ofs r h m num) (.inr "hands" : Key) = some (.ref h) := rfl
theorem o_moment {r h : Addr} {m num : Int} : valV (ofs r h m num) (.inr "moment" : Key) = some (.int m) := rfl
theorem o_number {r h : Addr} {m num : Int} : valV (ofs r h m num) (.inr "number" : Key) = some (.int num) := rfl
theorem q_rows {r h x : Addr} {m num : Int} : putK (ofs r h m num) (.inr "rows" : Key) (.ref x) = ofs x h m num := rfl
theorem q_moment {r h : Addr} {m num x : Int} : putK (ofs r h m num) (.inr "moment" : Key) (.int x) = ofs r h x num := rfl
theorem q_number {r h : Addr} {m num x : Int} : putK (ofs r h m num) (.inr "number" : Key) (.int x) = ofs r h m x := rfl
/-- an item of a dict with text keys is read -/
theorem dgS {H : Hp} {a : Addr} {kvs : List (Key × V)} {k : Str} {v : V} (h : H a = some (.dK kvs)) (e : valV kvs (.inr k : Key) = some v) : DGet H a (.str k) (some v) := by
  have := DGet.k (k := Sum.inr k) h
  rw [e] at this
  exact this
section
variable {P : Program} {w : World} {K : PySem.W.Frag} {mg : Str → Option Value} {base : Heap} {A : Ad}
theorem scstore : FnScope [] [] (defScope s_store) := ⟨rfl, rfl, rfl, by decide +kernel, rfl, by decide +kernel, by decide +kernel⟩
def spStore : Sp := fun vs H Q _ => vs = [] ∧ ∀ G s r h, H s = none → H r = none → H h = none → StAt G s r h Tb.new (fun _ => 0) 0 0 → Kp No H G → Q (.ref s) G
theorem ok_store (T : Txt K mg A) : ∃ fd, FnOk P w K mg base CX0 1 (A.d 47) fd [] spStore ∧ Binds K fd [] [] := by
  obtain ⟨fd, F⟩ := T.store.fn
  refine ⟨fd, F.ok scstore (fun vs H Q E h => ?_) (fun cdv Ar outer s H vs Q E hr h => ?_), F.binds fun _ _ _ _ _ _ us hl => match us, hl with | [], _ => rfl⟩
  · obtain ⟨rfl, _⟩ := h
    rfl
  · obtain ⟨rfl, k⟩ := h
    refine ⟨_, (pss_one (ps_ret (pe_disp (pps_cons pe_str pe_dnewK (pps_cons pe_str pe_dnewK (pps_cons pe_str pe_int (pps_cons pe_str pe_int pps_nil)))) (by rfl) (by rfl) (fun z => by cases z) (by decide)))), ?_⟩
    refine fun s ns r nr h nh => ?_
    obtain ⟨a1, nr'⟩ := upd_none nr
    obtain ⟨b1, nh'⟩ := upd_none nh
    obtain ⟨b2, nh'⟩ := upd_none nh'
    refine ⟨by rw [upd_ne b2.symm, upd_ne a1.symm, upd_same], ofs r h 0 0, rfl, by show 4 ≤ 15; decide, ?_⟩
    have e0 : mergeK [] (ofs r h 0 0) = ofs r h 0 0 := rfl
    rw [e0]
    refine k _ s r h ns nr' nh' ⟨upd_same, ⟨[], ?_, Nat.le_refl _, fun j => rfl⟩, ⟨[], ?_, Nat.le_refl _, fun j => rfl⟩, a1.symm, b2.symm, b1.symm⟩ ?_
    · rw [upd_ne a1, upd_ne b1.symm, upd_same]
    · rw [upd_ne b2, upd_same]
    · have kd : Kp (fun b => b = s) H _ := ((Kp.new (o := .dK []) ns).andN (o' := .dK []) nr).andN (o' := .dK []) nh
      exact kp_fresh (kd.andD (by rw [upd_ne b2.symm, upd_ne a1.symm, upd_same]) rfl) fun b z => by rw [z]; exact ns
theorem scseen : FnScope ["_law_store_here", "_law_key", "_law_row"] ["_law_store_here", "_law_key"] (defScope s_seen) := ⟨rfl, rfl, rfl, by decide +kernel, rfl, by decide +kernel, by decide +kernel⟩
def spSeen : Sp := fun vs H Q _ => ∃ (s r h : Addr) (j : Int) (t : Tb) (g : Ls) (num : Int) (n : Nat), vs = [.ref s, .int j] ∧ StAt H s r h t g num n ∧ ∀ G, Kp No H G → Q (oV (seen t.mom t.rows j)) G
theorem ok_seen (T : Txt K mg A) : ∃ fd, FnOk P w K mg base CX0 1 (A.d 49) fd ["_law_store_here", "_law_key"] spSeen ∧ Binds K fd ["_law_store_here", "_law_key"] [] := by
  obtain ⟨fd, F⟩ := T.seen.fn
  refine ⟨fd, F.ok scseen (fun vs H Q E h => ?_) (fun cdv Ar outer s0 H vs Q E hr h => ?_), F.binds fun _ _ _ _ _ _ us hl => match us, hl with | [_, _], _ => rfl⟩
  · obtain ⟨s, r, h, j, t, g, num, n, rfl, _⟩ := h
    rfl
  · obtain ⟨s, r, h, j, t, g, num, n, rfl, S, k⟩ := h
    have hu := hu_of hr
    refine ⟨_, (pss_cons (ps_set (i := 2) scseen.nd rfl (Or.inl rfl) (pe_dget2 hu (pe_dget hu (pv 0) pe_str (fun _ _ => rfl)) (pv 1) (pe_tup (pa_cons pe_non (pa_cons pe_int pa_nil))) ⟨rfl, rfl, rfl, rfl⟩))
      (pss_one (ps_ret (pe_ifExp (PW.pt (pw_or (pt_cmpR op_eq (pe_ix ix_tup (pv 2) pe_int (fun _ _ => rfl)) pe_int (nomark _)) (pw_or1 (pt_cmpR op_gt (pe_ix ix_tup (pv 2) pe_int (fun _ _ => rfl)) (pe_dget hu (pv 0) pe_str (fun _ _ => rfl)) (nomark _))))) (pe_ix ix_tup (pv 2) pe_int (fun _ _ => rfl)) pe_non)))), ?_⟩
    obtain ⟨kvs, hd, hl, hf⟩ := S.rows
    refine ⟨_, rfl, s, _, rfl, dgS S.dc o_rows, r, rfl, .inl ⟨kvs, .inl hd⟩, _, rfl, sz 2 (by decide), fun u nu => ?_⟩
    have ku : Kp No H (upd H u (.tup [.non, .int 0])) := Kp.new nu
    have hd2 := (upd_ne (o := .tup [V.non, .int 0]) (ne_of_none hd nu)).trans hd
    have hs2 := (upd_ne (o := .tup [V.non, .int 0]) (ne_of_none S.dc nu)).trans S.dc
    have q := hf j
    have kk := k _ ku
    unfold seen at kk
    refine ⟨_, DGet.k (k := Sum.inl j) hd2, ?_⟩
    cases e : t.rows j with
    | none =>
      rw [e] at q kk
      rw [q]
      refine ⟨_, rfl, u, _, 1, _, rfl, rfl, SqT.of upd_same, rfl, rfl, _, rfl, iteT (iteT ?_)⟩
      exact ⟨_, rfl, u, _, 0, _, rfl, rfl, SqT.of upd_same, rfl, kk⟩
    | some p =>
      obtain ⟨wt, en⟩ := p
      rw [e] at q kk
      obtain ⟨t1, q1, q2⟩ := q
      rw [q1]
      have ht := (upd_ne (o := .tup [V.non, .int 0]) (ne_of_none q2 nu)).trans q2
      have kk : Q (oV (if shB en t.mom = true then some wt else none)) _ := kk
      unfold shB at kk
      refine ⟨_, rfl, t1, _, 1, _, rfl, rfl, SqT.of ht, rfl, rfl, _, rfl, ?_⟩
      have yes : ∀ G, G = upd H u (.tup [V.non, .int 0]) → Q (oV (some wt)) G → tRet (tOp (rIxT K) (tVar 2) (tC (.int 0))) { nx := fun _ G => Q .non G, rt := Q } [some (.ref s), some (.int j), some (.ref t1)] G := fun G e q => by
        subst e
        exact ⟨_, rfl, t1, _, 0, _, rfl, rfl, SqT.of ht, rfl, q⟩
      by_cases h1 : en = 0
      · have : decide (V.int en = V.int 0) = true := by rw [h1]; rfl
        rw [this]
        rw [decide_eq_true h1, Bool.true_or, if_pos rfl] at kk
        exact iteT (iteT (yes _ rfl kk))
      · have : decide (V.int en = V.int 0) = false := by simpa using h1
        rw [this]
        rw [decide_eq_false h1, Bool.false_or] at kk
        refine iteF ⟨_, rfl, t1, _, 1, _, rfl, rfl, SqT.of ht, rfl, _, rfl, s, _, rfl, dgS hs2 o_moment, _, _, rfl, rfl, _, rfl, ?_⟩
        by_cases h2 : t.mom < en
        · rw [decide_eq_true h2, if_pos rfl] at kk
          rw [decide_eq_true h2]
          exact iteT (yes _ rfl kk)
        · rw [decide_eq_false h2] at kk
          rw [decide_eq_false h2]
          exact iteF kk
end
end S16

set_option Elab.async false
set_option linter.all false
set_option maxRecDepth 100000
set_option maxHeartbeats 2000000
namespace S16
open PySem PySem.Spec PyProof.Rows L2 K5 SupX
theorem RwAt.copy {H G : Hp} {a b : Addr} {f : Rw} {n : Nat} {kvs : List (Key × V)} (R : RwAt H a f n) (hd : H a = some (.dK kvs)) (hb : G b = some (.dK kvs)) (k : Kp No H G) : RwAt G b f n := by
  obtain ⟨kv2, e1, l, q⟩ := R
  obtain rfl : kvs = kv2 := by rw [e1] at hd; cases hd; rfl
  refine ⟨kvs, hb, l, fun j => ?_⟩
  have := q j
  cases e : f j with
  | none => rw [e] at this; exact this
  | some p =>
    obtain ⟨w1, e1⟩ := p
    rw [e] at this
    obtain ⟨t, h1, h2⟩ := this
    exact ⟨t, h1, k.t.tup h2⟩
theorem HdAt.copy {H G : Hp} {a b : Addr} {g : Ls} {n : Nat} {kvs : List (Key × V)} (R : HdAt H a g n) (hd : H a = some (.dK kvs)) (hb : G b = some (.dK kvs)) (k : Kp No H G) : HdAt G b g n := by
  obtain ⟨kv2, e1, l, q⟩ := R
  obtain rfl : kvs = kv2 := by rw [e1] at hd; cases hd; rfl
  refine ⟨kvs, hb, l, fun j => ?_⟩
  have := q j
  cases e : valV kvs (.inl j : Key) with
  | none => rw [e] at this; exact this
  | some v =>
    rw [e] at this
    obtain ⟨t, num, b, h1, h2⟩ := this
    exact ⟨t, num, b, h1, k.t.tup h2⟩
section
variable {P : Program} {w : World} {K : PySem.W.Frag} {mg : Str → Option Value} {base : Heap} {A : Ad}
theorem scagain : FnScope ["_law_store_here", "_law_found"] ["_law_store_here"] (defScope s_again) := ⟨rfl, rfl, rfl, by decide +kernel, rfl, by decide +kernel, by decide +kernel⟩
def spAgain : Sp := fun vs H Q _ => ∃ (s r h : Addr) (t : Tb) (g : Ls) (num : Int) (n : Nat), vs = [.ref s] ∧ StAt H s r h t g num n ∧ ∀ G s' r' h', H s' = none → H r' = none → H h' = none → StAt G s' r' h' t g num n → Kp No H G → Q (.ref s') G
theorem ok_again (T : Txt K mg A) : ∃ fd, FnOk P w K mg base CX0 1 (A.d 48) fd ["_law_store_here"] spAgain ∧ Binds K fd ["_law_store_here"] [] := by
  obtain ⟨fd, F⟩ := T.again.fn
  refine ⟨fd, F.ok scagain (fun vs H Q E h => ?_) (fun cdv Ar outer s0 H vs Q E hr h => ?_), F.binds fun _ _ _ _ _ _ us hl => match us, hl with | [_], _ => rfl⟩
  · obtain ⟨s, r, h, t, g, num, n, rfl, _⟩ := h
    rfl
  · obtain ⟨s, r, h, t, g, num, n, rfl, S, k⟩ := h
    have hu := hu_of hr
    refine ⟨_, (pss_cons (ps_set (i := 1) scagain.nd rfl (Or.inl rfl) (pe_disp (pps_cons pe_str (pe_callTy call_dictD (by rfl) T.dict (by decide +kernel) (pa_cons (pe_dget hu (pv 0) pe_str (fun _ _ => rfl)) pa_nil)) (pps_cons pe_str (pe_callTy call_dictD (by rfl) T.dict (by decide +kernel) (pa_cons (pe_dget hu (pv 0) pe_str (fun _ _ => rfl)) pa_nil)) pps_nil)) (by rfl) (by rfl) (fun z => by cases z) (by decide)))
      (pss_cons (ps_expr (pe_bm PySem.F.plainAttrs_dict PySem.F.slot_dict_update PySem.F.type_dict_update (mt_updP rfl) (pv 1) (pa_cons (pe_lst (pa_cons (pe_tup (pa_cons pe_str (pa_cons (pe_dget hu (pv 0) pe_str (fun _ _ => rfl)) pa_nil))) (pa_cons (pe_tup (pa_cons pe_str (pa_cons (pe_dget hu (pv 0) pe_str (fun _ _ => rfl)) pa_nil))) pa_nil))) pa_nil)))
      (pss_one (ps_ret (pv 1))))), ?_⟩
    obtain ⟨kr, hdr⟩ := S.rows.dc
    obtain ⟨kh, hdh⟩ := S.hands.dc
    refine fun d nd => ?_
    have k1 : Kp No H (upd H d (.dK [])) := Kp.new nd
    have ks1 := k1.t.dK S.dc fun z => z
    have kr1 := k1.t.dK hdr fun z => z
    refine ⟨_, rfl, s, _, rfl, dgS ks1 o_rows, r, kr, rfl, .inl kr1, fun r' nr => ?_⟩
    have k2 := k1.andN (o' := .dK kr) nr
    refine ⟨_, rfl, s, _, rfl, dgS (k2.t.dK S.dc fun z => z) o_hands, h, kh, rfl, .inl (k2.t.dK hdh fun z => z), fun h' nh => ?_⟩
    have k3 := k2.andN (o' := .dK kh) nh
    obtain ⟨a1, nr'⟩ := upd_none nr
    obtain ⟨b1, nh'⟩ := upd_none nh
    obtain ⟨b2, nh'⟩ := upd_none nh'
    have hd3 : upd (upd (upd H d (.dK [])) r' (.dK kr)) h' (.dK kh) d = some (.dK []) := by rw [upd_ne b2.symm, upd_ne a1.symm, upd_same]
    refine ⟨hd3, [(.inr "rows", .ref r'), (.inr "hands", .ref h')], rfl, by show 2 ≤ 15; decide, ?_⟩
    have e0 : mergeK [] [((.inr "rows" : Key), V.ref r'), (.inr "hands", .ref h')] = [(.inr "rows", .ref r'), (.inr "hands", .ref h')] := rfl
    rw [e0]
    have kd : Kp (fun b => b = d) H (upd (upd (upd H d (.dK [])) r' (.dK kr)) h' (.dK kh)) := (((Kp.new (o := .dK []) nd).andN (o' := .dK kr) nr).andN (o' := .dK kh) nh)
    have kd4 : Kp (fun b => b = d) H (upd (upd (upd (upd H d (.dK [])) r' (.dK kr)) h' (.dK kh)) d (.dK [(.inr "rows", .ref r'), (.inr "hands", .ref h')])) := kd.andD hd3 rfl
    have k4 : Kp No H _ := kp_fresh kd4 fun b z => by rw [z]; exact nd
    generalize hG4 : upd (upd (upd (upd H d (.dK [])) r' (.dK kr)) h' (.dK kh)) d (.dK [(.inr "rows", .ref r'), (.inr "hands", .ref h')]) = G4 at kd4 k4 ⊢
    have g4d : G4 d = some (.dK [(.inr "rows", .ref r'), (.inr "hands", .ref h')]) := by rw [← hG4, upd_same]
    have g4r : G4 r' = some (.dK kr) := by rw [← hG4, upd_ne a1, upd_ne b1.symm, upd_same]
    have g4h : G4 h' = some (.dK kh) := by rw [← hG4, upd_ne b2, upd_same]
    refine ⟨_, rfl, .inr (.inr (.inl ⟨rfl, .inl ⟨_, g4d⟩⟩)), _, rfl, s, _, rfl, dgS (k4.t.dK S.dc fun z => z) o_moment, sz 2 (by decide), fun p1 n1 => ?_⟩
    have k5 := k4.andN (o' := .tup [.str "moment", .int t.mom]) n1
    refine ⟨_, rfl, s, _, rfl, dgS (k5.t.dK S.dc fun z => z) o_number, sz 2 (by decide), fun p2 n2 => ?_⟩
    have k6 := k5.andN (o' := .tup [.str "number", .int num]) n2
    refine ⟨sz 2 (by decide), fun l nl => ?_⟩
    have q4 : Kp No G4 (upd (upd (upd G4 p1 (.tup [.str "moment", .int t.mom])) p2 (.tup [.str "number", .int num])) l (.lst [.ref p1, .ref p2])) := ((Kp.new n1).andN n2).andN nl
    have g7d := q4.t.dK g4d fun z => z
    obtain ⟨c1, _⟩ := upd_none n2
    obtain ⟨c2, nl2⟩ := upd_none nl
    obtain ⟨c3, _⟩ := upd_none nl2
    refine ⟨d, l, [p1, p2], [(.inr "rows", .ref r'), (.inr "hands", .ref h')], [(.inr "moment", .int t.mom), (.inr "number", .int num)], rfl, rfl, g7d, SqL.of upd_same, .cons (SqT.of (by rw [upd_ne c3.symm, upd_ne c1.symm, upd_same]; rfl)) (.cons (SqT.of (by rw [upd_ne c2.symm, upd_same]; rfl)) .nil), sz 4 (by decide), ?_⟩
    have e1 : mergeK [((.inr "rows" : Key), V.ref r'), (.inr "hands", .ref h')] [(.inr "moment", .int t.mom), (.inr "number", .int num)] = ofs r' h' t.mom num := rfl
    rw [e1]
    have k7 : Kp (fun b => b = d) H _ := (kd4.trans (F' := No) q4 fun _ z => False.elim z).andD (o' := .dK (ofs r' h' t.mom num)) g7d rfl
    have k8 : Kp No H _ := kp_fresh k7 fun b z => by rw [z]; exact nd
    have g8r : upd (upd (upd (upd G4 p1 (.tup [.str "moment", .int t.mom])) p2 (.tup [.str "number", .int num])) l (.lst [.ref p1, .ref p2])) d (.dK (ofs r' h' t.mom num)) r' = some (.dK kr) := by rw [upd_ne a1]; exact q4.t.dK g4r fun z => z
    have g8h : upd (upd (upd (upd G4 p1 (.tup [.str "moment", .int t.mom])) p2 (.tup [.str "number", .int num])) l (.lst [.ref p1, .ref p2])) d (.dK (ofs r' h' t.mom num)) h' = some (.dK kh) := by rw [upd_ne b2]; exact q4.t.dK g4h fun z => z
    exact ⟨_, rfl, k _ d r' h' nd nr' nh' ⟨upd_same, S.rows.copy hdr g8r k8, S.hands.copy hdh g8h k8, a1.symm, b2.symm, b1.symm⟩ k8⟩
end
end S16

set_option Elab.async false
set_option linter.all false
set_option maxRecDepth 100000
set_option maxHeartbeats 2000000
namespace S16
open PySem PySem.Spec PyProof.Rows L2 K5 SupX
theorem scal_oV (a b : Option Int) : scal (oV a) (oV b) = true := by cases a <;> cases b <;> rfl
section
variable {P : Program} {w : World} {K : PySem.W.Frag} {mg : Str → Option Value} {base : Heap} {A : Ad}
theorem sctried : FnScope ["_law_store_here", "_law_deal_here", "_law_trial", "_law_deed_here", "_law_key", "_law_worth"] ["_law_store_here", "_law_deal_here"] (defScope s_tried) := ⟨rfl, rfl, rfl, by decide +kernel, rfl, by decide +kernel, by decide +kernel⟩
def spTried : Sp := fun vs H Q _ => ∃ (s r h : Addr) (v : V) (t : Tb) (g : Ls) (num : Int) (n : Nat) (ds : List Dd), vs = [.ref s, v] ∧ StAt H s r h t g num n ∧ DsAt H v ds ∧ n + ds.length ≤ 15000 ∧
  ∀ G, Kp No H G → (steps t.mom t.rows ds = none → Q .non G) ∧ ∀ f b, steps t.mom t.rows ds = some f → H b = none → RwAt G b f (n + ds.length) → Q (.ref b) G
theorem ok_tried (T : Txt K mg A) : ∃ fd, FnOk P w K mg base CX0 2 (A.d 50) fd ["_law_store_here", "_law_deal_here"] spTried ∧ Binds K fd ["_law_store_here", "_law_deal_here"] [] := by
  obtain ⟨fd, F⟩ := T.tried.fn
  obtain ⟨fdA, Gagain, bagain⟩ := ok_again (P := P) (w := w) (base := base) T
  obtain ⟨fdS, Gseen, bseen⟩ := ok_seen (P := P) (w := w) (base := base) T
  refine ⟨fd, F.ok sctried (fun vs H Q E h => ?_) (fun cdv Ar outer s0 H vs Q E hr h => ?_), F.binds fun _ _ _ _ _ _ us hl => match us, hl with | [_, _], _ => rfl⟩
  · obtain ⟨s, r, h, v, t, g, num, n, ds, rfl, _⟩ := h
    rfl
  · obtain ⟨s, r, h, v, t, g, num, n, ds, rfl, S, ⟨u, xs, rfl, hu2, pa, hl⟩, hn, k⟩ := h
    have hu := hu_of hr
    refine ⟨_, (pss_cons (ps_set (i := 2) sctried.nd rfl (Or.inl rfl) (pe_call Gagain (hr.mono (by first | decide | omega)) rfl T.again.at_ T.again.kp bagain .nil pass0 (pa_cons (pv 0) pa_nil)))
      (pss_cons (ps_for PassesOwn.never rfl (pi_tup (pv 1)) (pg_name (i := 3) sctried.nd rfl (Or.inl rfl))
        (pss_cons (ps_set (i := 4) sctried.nd rfl (Or.inl rfl) (pe_ix ix_tup (pv 3) pe_int (fun _ _ => rfl)))
        (pss_cons (ps_set (i := 5) sctried.nd rfl (Or.inl rfl) (pe_call Gseen (hr.mono (by first | decide | omega)) rfl T.seen.at_ T.seen.kp bseen .nil pass0 (pa_cons (pv 2) (pa_cons (pv 4) pa_nil))))
        (pss_one (ps_if (pt_cmpR op_eq (pe_ix ix_tup (pv 3) pe_int (fun _ _ => rfl)) pe_str (nomark _))
          (pss_one (ps_dput hu (pe_dget hu (pv 2) pe_str (fun _ _ => rfl)) (pv 4) (pe_tup (pa_cons (pe_ix ix_tup (pv 3) pe_int (fun _ _ => rfl)) (pa_cons (pe_ifExp (pt_cmpR op_eq (pe_ix ix_tup (pv 3) pe_int (fun _ _ => rfl)) pe_int (nomark _)) pe_int (pe_op op_add (pe_dget hu (pv 0) pe_str (fun _ _ => rfl)) (pe_ix ix_tup (pv 3) pe_int (fun _ _ => rfl)))) pa_nil))) rfl))
          (pss_one (ps_if (pt_cmpR op_eq (pe_ix ix_tup (pv 3) pe_int (fun _ _ => rfl)) pe_str (nomark _))
            (pss_one (ps_expr (pe_dpop2 (pe_dget hu (pv 2) pe_str (fun _ _ => rfl)) (pv 4) pe_non ⟨rfl, rfl, rfl, rfl⟩)))
            (pss_one (ps_if (pt_cmpR op_eq (pe_ix ix_tup (pv 3) pe_int (fun _ _ => rfl)) pe_str (nomark _))
              (pss_one (ps_if (pt_cmpR op_ne (pv 5) (pe_ix ix_tup (pv 3) pe_int (fun _ _ => rfl)) (nomark _))
                (pss_one (ps_ret pe_non))
                pss_nil))
              (pss_one (ps_if (PW.pt (pw_or (pt_cmp (pc_isN (pv 5))) (pw_or1 (pt_not (pt_chain op_le op_le pe_int (pe_op op_add (pv 5) (pe_ix ix_tup (pv 3) pe_int (fun _ _ => rfl))) pe_int)))))
                (pss_one (ps_ret pe_non))
                (pss_one (ps_dput hu (pe_dget hu (pv 2) pe_str (fun _ _ => rfl)) (pv 4) (pe_tup (pa_cons (pe_op op_add (pv 5) (pe_ix ix_tup (pv 3) pe_int (fun _ _ => rfl))) (pa_cons (pe_ix ix_tup (pe_dget hu (pe_dget hu (pv 2) pe_str (fun _ _ => rfl)) (pv 4) (fun _ _ => rfl)) pe_int (fun _ _ => rfl)) pa_nil))) rfl)))))))))))))
      (pss_one (ps_ret (pe_dget hu (pv 2) pe_str (fun _ _ => rfl)))))), ?_⟩
    refine ⟨_, rfl, s, r, h, t, g, num, n, rfl, S, fun G0 s' r' h' ns nr nh S' k0 => ?_⟩
    have frz : ∀ {G}, Kp (fun b => b = r') G0 G → Kp No H G := fun kp => k0.trans kp fun b z => .inr (by rw [z]; exact nr)
    refine ⟨_, rfl, u, rfl, ⟨_, SqT.of (k0.t.tup hu2)⟩, for_tup (K := K) (a := u) (xs := xs) (fun i σ G => Kp (fun b => b = r') G0 G ∧ (∃ o1 o2 o3, σ = [some (.ref s), some (.ref u), some (.ref s'), o1, o2, o3]) ∧ ∃ f, steps t.mom t.rows (ds.take i) = some f ∧ RwAt G r' f (n + i)) ⟨Kp.refl _ _, ⟨none, none, none, rfl⟩, t.rows, rfl, S'.rows⟩ (fun i σ G _ ⟨kp, _⟩ => SqT.of ((frz kp).t.tup hu2)) ?_ ?_⟩
    · rintro i x σ G hx ⟨kp, ⟨o1, o2, o3, rfl⟩, f, hf, R⟩
      obtain ⟨d, hd, e, rfl, he⟩ := paired_at pa hx
      have hil : i < ds.length := (List.getElem?_eq_some_iff.mp hd).1
      have sp1 : ds = ds.take i ++ d :: ds.drop (i + 1) := split_at hd
      have heG : G e = some (.tup d.vs) := (frz kp).t.tup he
      have S2 : StAt G s' r' h' ⟨f, t.mom⟩ g num (n + i) := by
        have dh := S'.hands.dc
        obtain ⟨kh, hkh⟩ := dh
        exact ⟨kp.t.dK S'.dc S'.sr, R, (S'.hands.kt kp.t S'.rh.symm).le (by omega), S'.sr, S'.sh, S'.rh⟩
      have none_ : step t.mom f d = none → ∀ G3, Kp No G G3 → Q .non G3 := fun s0 G3 k3 => (k G3 ((frz kp).trans k3 fun _ z => False.elim z)).1 (by rw [sp1, steps_app hf]; simp only [steps, s0])
      have some_ : ∀ f2, step t.mom f d = some f2 → steps t.mom t.rows (ds.take (i + 1)) = some f2 := fun f2 s2 => by rw [take_snoc hd, steps_app hf]; simp only [steps, s2]
      refine ⟨_, rfl, e, _, 1, .int d.key, rfl, rfl, SqT.of heG, (by cases d <;> rfl), ?_⟩
      refine ⟨_, rfl, _, rfl, s', r', h', d.key, ⟨f, t.mom⟩, g, num, n + i, rfl, S2, fun G2 k2 => ?_⟩
      have he2 : G2 e = some (.tup d.vs) := k2.t.tup heG
      have R2 : RwAt G2 r' f (n + i) := R.kt k2.t fun z => z
      have s2dc : G2 s' = some (.dK (ofs r' h' t.mom num)) := k2.t.dK S2.dc fun z => z
      have sdc : G2 s = some (.dK (ofs r h t.mom num)) := ((frz kp).trans k2 fun _ z => False.elim z).t.dK S.dc fun z => z
      have R2' := R2
      obtain ⟨kvs, hdr, hkl, hfk⟩ := R2'
      have kp2 : Kp (fun b => b = r') G0 G2 := kp.trans (F' := No) k2 fun _ z => False.elim z
      cases d with
      | put j wt l =>
        refine ⟨_, rfl, e, _, 0, .str "put", rfl, rfl, SqT.of he2, rfl, rfl, _, rfl, iteT ?_⟩
        refine ⟨_, rfl, e, _, 2, .int wt, rfl, rfl, SqT.of he2, rfl, ?_⟩
        refine ⟨_, rfl, e, _, 3, .int l, rfl, rfl, SqT.of he2, rfl, rfl, _, rfl, ?_⟩
        refine ite2 (fun h0 => ?_) (fun h0 => ⟨_, rfl, s, _, rfl, dgS sdc o_moment, _, rfl, e, _, 3, .int l, rfl, rfl, SqT.of he2, rfl, _, _, rfl, rfl, ?_⟩)
        all_goals
          refine ⟨sz 2 (by decide), fun q nq => ?_⟩
          refine ⟨_, rfl, s', _, rfl, dgS ((upd_ne (ne_of_none s2dc nq)).trans s2dc) o_rows, _, rfl, r', _, rfl, DPut.k (k := Sum.inl j) ((upd_ne (ne_of_none hdr nq)).trans hdr) (szL (by omega)), ?_⟩
          refine ⟨(kp2.andN nq).andD ((upd_ne (ne_of_none hdr nq)).trans hdr) rfl, ⟨_, _, _, rfl⟩, _, some_ _ ?_, (R2.kt (Kp.new (F := No) nq).t fun z => z).put (k := j) ((upd_ne (ne_of_none hdr nq)).trans hdr) upd_same⟩
          simp only [step]
          first
            | rw [if_pos (by simpa using h0)]
            | rw [if_neg (by simpa using h0)]
      | drop j =>
        refine ⟨_, rfl, e, _, 0, .str "drop", rfl, rfl, SqT.of he2, rfl, rfl, _, rfl, iteF ?_⟩
        refine ⟨_, rfl, e, _, 0, .str "drop", rfl, rfl, SqT.of he2, rfl, rfl, _, rfl, iteT ?_⟩
        refine ⟨_, rfl, s', _, rfl, dgS s2dc o_rows, r', rfl, .inl ⟨kvs, .inl hdr⟩, _, rfl, kvs, Sum.inl j, hdr, rfl, fun v hv => ?_, fun hv => ?_⟩
        · exact ⟨kp2.andD hdr rfl, ⟨_, _, _, rfl⟩, _, some_ _ rfl, (R2.del (k := j) hdr).le (by omega)⟩
        · have ef : f.set j none = f := set_none (by
            have := hfk j
            cases e : f j with
            | none => rfl
            | some q =>
              obtain ⟨w', e'⟩ := q
              rw [e] at this
              obtain ⟨t', h1, _⟩ := this
              rw [hv] at h1
              cases h1)
          exact ⟨kp2, ⟨_, _, _, rfl⟩, _, some_ _ rfl, by rw [ef]; exact R2.le (by omega)⟩
      | iff j x =>
        refine ⟨_, rfl, e, _, 0, .str "if", rfl, rfl, SqT.of he2, rfl, rfl, _, rfl, iteF ?_⟩
        refine ⟨_, rfl, e, _, 0, .str "if", rfl, rfl, SqT.of he2, rfl, rfl, _, rfl, iteF ?_⟩
        refine ⟨_, rfl, e, _, 0, .str "if", rfl, rfl, SqT.of he2, rfl, rfl, _, rfl, iteT ?_⟩
        refine ⟨_, rfl, _, rfl, e, _, 2, oV x, rfl, rfl, SqT.of he2, rfl, ?_, _, rfl, ?_⟩
        · exact scal_oV _ _
        · show (if (!decide (oV (seen t.mom f j) = oV x)) = true then _ else _)
          rw [oV_eq]
          by_cases hs : seen t.mom f j = x
          · rw [decide_eq_true hs]
            exact iteF ⟨kp2, ⟨_, _, _, rfl⟩, f, some_ _ (by simp only [step, hs, if_true]), R2.le (by omega)⟩
          · rw [decide_eq_false hs]
            exact iteT (none_ (by simp only [step, hs, if_false]) _ k2)
      | add j x =>
        refine ⟨_, rfl, e, _, 0, .str "add", rfl, rfl, SqT.of he2, rfl, rfl, _, rfl, iteF ?_⟩
        refine ⟨_, rfl, e, _, 0, .str "add", rfl, rfl, SqT.of he2, rfl, rfl, _, rfl, iteF ?_⟩
        refine ⟨_, rfl, e, _, 0, .str "add", rfl, rfl, SqT.of he2, rfl, rfl, _, rfl, iteF ?_⟩
        have q := hfk j
        cases ef : f j with
        | none =>
          have z0 : seen t.mom f j = none := by simp only [seen, ef]
          have s0 : step t.mom f (.add j x) = none := by simp only [step, ef]
          show tIfS _ _ _ _ [some (.ref s), some (.ref u), some (.ref s'), some (.ref e), some (.int j), some (oV (seen t.mom f j))] G2
          rw [z0]
          exact ⟨_, rfl, _, rfl, iteT (iteT (none_ s0 _ k2))⟩
        | some p =>
          obtain ⟨wt, en⟩ := p
          rw [ef] at q
          obtain ⟨t1, q1, q2⟩ := q
          show tIfS _ _ _ _ [some (.ref s), some (.ref u), some (.ref s'), some (.ref e), some (.int j), some (oV (seen t.mom f j))] G2
          by_cases hs : shB en t.mom = true
          · have z0 : seen t.mom f j = some wt := by simp only [seen, ef, hs, if_true]
            rw [z0]
            refine ⟨_, rfl, _, rfl, iteF ?_⟩
            refine ⟨_, rfl, _, rfl, e, _, 2, .int x, rfl, rfl, SqT.of he2, rfl, _, _, rfl, rfl, _, _, rfl, rfl, _, rfl, ?_⟩
            have no : inB 0 999 (wt + x) = false → ∀ G3, Kp No G G3 → Q .non G3 := fun hb => none_ (by simp only [step, ef, hs, hb]; rfl)
            have go : inB 0 999 (wt + x) = true → step t.mom f (.add j x) = some (f.set j (some (wt + x, en))) := fun hb => by simp only [step, ef, hs, hb]; rfl
            by_cases h1 : 0 ≤ wt + x
            · rw [decide_eq_true h1]
              refine iteT ⟨_, _, rfl, rfl, _, rfl, ?_⟩
              by_cases h2 : wt + x ≤ 999
              · rw [decide_eq_true h2]
                refine iteF ?_
                refine ⟨_, rfl, _, rfl, e, _, 2, .int x, rfl, rfl, SqT.of he2, rfl, _, _, rfl, rfl, _, rfl, s', _, rfl, dgS s2dc o_rows, _, rfl, r', _, rfl, (by have := DGet.k (k := Sum.inl j) hdr; rw [q1] at this; exact this), t1, _, 1, .int en, rfl, rfl, SqT.of q2, rfl, sz 2 (by decide), fun q nq => ?_⟩
                refine ⟨_, rfl, s', _, rfl, dgS ((upd_ne (ne_of_none s2dc nq)).trans s2dc) o_rows, _, rfl, r', _, rfl, DPut.k (k := Sum.inl j) ((upd_ne (ne_of_none hdr nq)).trans hdr) (szL (by omega)), ?_⟩
                exact ⟨(kp2.andN nq).andD ((upd_ne (ne_of_none hdr nq)).trans hdr) rfl, ⟨_, _, _, rfl⟩, _, some_ _ (go (inB_t.mpr ⟨h1, h2⟩)), (R2.kt (Kp.new (F := No) nq).t fun z => z).put (k := j) ((upd_ne (ne_of_none hdr nq)).trans hdr) upd_same⟩
              · rw [decide_eq_false h2]
                exact iteT (no (by simp [inB, h2]) _ k2)
            · rw [decide_eq_false h1]
              exact iteF ⟨_, rfl, iteT (no (by simp [inB, h1]) _ k2)⟩
          · have z0 : seen t.mom f j = none := by simp only [seen, ef, hs, if_false]; rfl
            have s0 : step t.mom f (.add j x) = none := by simp only [step, ef, hs, false_and, if_false]; rfl
            rw [z0]
            exact ⟨_, rfl, _, rfl, iteT (iteT (none_ s0 _ k2))⟩
    · rintro σ G ⟨kp, ⟨o1, o2, o3, rfl⟩, f, hf, R⟩
      rw [pa.length, List.take_length] at hf
      rw [pa.length] at R
      exact ⟨_, rfl, s', _, rfl, dgS (kp.t.dK S'.dc S'.sr) o_rows, (k G (frz kp)).2 f r' hf nr R⟩
end
end S16

set_option Elab.async false
set_option linter.all false
set_option maxRecDepth 100000
set_option maxHeartbeats 2000000
namespace S16
open PySem PySem.Spec PyProof.Rows L2 K5 SupX
def oR : Option Addr → V
  | none => .non
  | some b => .ref b
section
variable {P : Program} {w : World} {K : PySem.W.Frag} {mg : Str → Option Value} {base : Heap} {A : Ad}
theorem scdeal : FnScope ["_law_store_here", "_law_hand", "_law_letter", "_law_deal_here", "_law_rows"] ["_law_store_here", "_law_hand", "_law_letter", "_law_deal_here"] (defScope s_deal) := ⟨rfl, rfl, rfl, by decide +kernel, rfl, by decide +kernel, by decide +kernel⟩
def spDeal : Sp := fun vs H Q _ => ∃ (s r h : Addr) (hand x : Int) (v : V) (t : Tb) (g : Ls) (num : Int) (n : Nat) (ds : List Dd), vs = [.ref s, .int hand, .int x, v] ∧ StAt H s r h t g num n ∧ DsAt H v ds ∧ n + ds.length ≤ 14000 ∧ g hand ≠ x ∧
  ∀ G r', (r' = r ∨ H r' = none) → Kp (fun b => b = s ∨ b = h) H G → StAt G s r' h (t.next (.deal hand ds)) (g.set hand x) (num + 1) (n + ds.length + 1) → ∀ v', Q v' G
theorem ok_deal (T : Txt K mg A) : ∃ fd, FnOk P w K mg base CX0 3 (A.d 51) fd ["_law_store_here", "_law_hand", "_law_letter", "_law_deal_here"] spDeal ∧ Binds K fd ["_law_store_here", "_law_hand", "_law_letter", "_law_deal_here"] [] := by
  obtain ⟨fd, F⟩ := T.deal.fn
  obtain ⟨fdT, Gtried, btried⟩ := ok_tried (P := P) (w := w) (base := base) T
  refine ⟨fd, F.ok scdeal (fun vs H Q E h => ?_) (fun cdv Ar outer s0 H vs Q E hr h => ?_), F.binds fun _ _ _ _ _ _ us hl => match us, hl with | [_, _, _, _], _ => rfl⟩
  · obtain ⟨s, r, h, hand, x, v, t, g, num, n, ds, rfl, _⟩ := h
    rfl
  · obtain ⟨s, r, h, hand, x, v, t, g, num, n, ds, rfl, S, hds, hn, hg, k⟩ := h
    have hu := hu_of hr
    refine ⟨_, (pss_cons (ps_if (pt_cmpR op_ne (pe_ix ix_tup (pe_dget2 hu (pe_dget hu (pv 0) pe_str (fun _ _ => rfl)) (pv 1) (pe_tup (pa_cons pe_int pa_nil)) ⟨rfl, rfl, rfl, rfl⟩) pe_int (fun _ _ => rfl)) (pv 2) (nomark _))
        (C8.pss_cut (ps_set (i := 4) scdeal.nd rfl (Or.inl rfl) (pe_call Gtried (hr.mono (by first | decide | omega)) rfl T.tried.at_ T.tried.kp btried .nil pass0 (pa_cons (pv 0) (pa_cons (pv 3) pa_nil))))
        (pss_cons (ps_dput hu (pv 0) pe_str (pe_op op_add (pe_dget hu (pv 0) pe_str (fun _ _ => rfl)) pe_int) rfl)
        (C8.pss_cut (ps_if (pt_cmp (pc_notN (pv 4)))
          (pss_one (ps_dput hu (pv 0) pe_str (pv 4) rfl))
          pss_nil)
        (pss_one (ps_dput hu (pe_dget hu (pv 0) pe_str (fun _ _ => rfl)) (pv 1) (pe_tup (pa_cons (pv 2) (pa_cons (pe_dget hu (pv 0) pe_str (fun _ _ => rfl)) (pa_cons (pe_cmp (pc_notN (pv 4))) pa_nil)))) rfl)))))
        pss_nil)
      (pss_one (ps_ret (pe_slice sl_tup (pe_dget hu (pe_dget hu (pv 0) pe_str (fun _ _ => rfl)) (pv 1) (fun _ _ => rfl)) (po_some pe_int) po_none)))), ?_⟩
    obtain ⟨kh, hdh, hkl, hf⟩ := S.hands
    have q := hf hand
    refine ⟨_, rfl, s, _, rfl, dgS S.dc o_hands, h, rfl, .inl ⟨kh, .inl hdh⟩, _, rfl, sz 1 (by decide), fun u nu => ?_⟩
    have ku : Kp No H (upd H u (.tup [.int 0])) := Kp.new nu
    have hdh2 := ku.t.dK hdh fun z => z
    refine ⟨_, DGet.k (k := Sum.inl hand) hdh2, ?_⟩
    have first : ∃ t1 rest, (valV kh (Sum.inl hand)).getD (.ref u) = .ref t1 ∧ upd H u (.tup [.int 0]) t1 = some (.tup (.int (g hand) :: rest)) := by
      cases e : valV kh (.inl hand : Key) with
      | none =>
        rw [e] at q
        exact ⟨u, [], rfl, by rw [upd_same, show g hand = 0 from q]⟩
      | some v1 =>
        rw [e] at q
        obtain ⟨t1, num1, b1, rfl, h2⟩ := q
        exact ⟨t1, [.int num1, .bl b1], rfl, ku.t.tup h2⟩
    obtain ⟨t1, rest, e1, ht1⟩ := first
    refine ⟨t1, _, 0, .int (g hand), e1, rfl, SqT.of ht1, atI_nat (j := 0) rfl, _, rfl, rfl, _, rfl, ?_⟩
    have ne1 : (!decide (V.int (g hand) = V.int x)) = true := by simp [hg]
    rw [ne1]
    refine iteT ⟨fun σ G => ∃ o r', σ = [some (.ref s), some (.int hand), some (.int x), some v, some (oR o)] ∧ Kp No H G ∧ (r' = r ∨ H r' = none) ∧ RwAt G r' (t.next (.deal hand ds)).rows (n + ds.length) ∧ (o = none → r' = r) ∧ ∀ b, o = some b → r' = b, ?_, ?_⟩
    · refine ⟨_, rfl, _, rfl, s, r, h, v, t, g, num, n, ds, rfl, S.kt ku.t (fun _ _ _ z => z), hds.kt ku.t, by omega, fun G k2 => ⟨fun q => ?_, fun f b q nb R => ?_⟩⟩
      · refine ⟨none, r, rfl, ku.trans k2 fun _ z => False.elim z, .inl rfl, ?_, fun _ => rfl, fun b z => by cases z⟩
        simp only [Tb.next, q]
        exact (S.rows.kt (ku.trans k2 fun _ z => False.elim z).t fun z => z).le (by omega)
      · refine ⟨some b, b, rfl, ku.trans k2 fun _ z => False.elim z, .inr (ku.free nb fun z => False.elim z), ?_, (fun z => by cases z), fun b z => by cases z; rfl⟩
        simp only [Tb.next, q]
        exact R
    · rintro σ G ⟨o, r', rfl, kG, hr', R, ho1, ho2⟩
      have hs : G s = some (.dK (ofs r h t.mom num)) := kG.t.dK S.dc fun z => z
      have hh : G h = some (.dK kh) := kG.t.dK hdh fun z => z
      have Hd : HdAt G h g n := S.hands.kt kG.t fun z => z
      have sr' : s ≠ r' := by
        rcases hr' with z | z
        · rw [z]; exact S.sr
        · exact ne_of_none S.dc z
      have rh' : r' ≠ h := by
        rcases hr' with z | z
        · rw [z]; exact S.rh
        · exact (ne_of_none hdh z).symm
      refine ⟨_, rfl, s, _, rfl, dgS hs o_number, _, _, rfl, rfl, _, rfl, s, _, rfl, DPut.k (k := Sum.inr "number") hs (szL (by show 4 ≤ 16000; decide)), ?_⟩
      rw [q_number]
      have k2 : Kp (fun b => b = s ∨ b = h) H (upd G s (.dK (ofs r h t.mom (num + 1)))) := (kG.sub fun _ z => False.elim z).andD hs (.inl rfl)
      refine ⟨fun σ J => σ = [some (.ref s), some (.int hand), some (.int x), some v, some (oR o)] ∧ J = upd G s (.dK (ofs r' h t.mom (num + 1))), ?_, ?_⟩
      · cases o with
        | none =>
          have e := ho1 rfl
          refine ⟨_, rfl, _, rfl, iteF ⟨rfl, ?_⟩⟩
          rw [e]
        | some b =>
          have e := ho2 b rfl
          refine ⟨_, rfl, _, rfl, iteT ⟨_, rfl, _, rfl, s, _, rfl, DPut.k (k := Sum.inr "rows") upd_same (szL (by show 4 ≤ 16000; decide)), ?_⟩⟩
          refine ⟨rfl, ?_⟩
          show upd (upd G s (.dK (ofs r h t.mom (num + 1)))) s (.dK (ofs b h t.mom (num + 1))) = _
          rw [upd_upd, e]
      · rintro σ J ⟨rfl, rfl⟩
        have k3 : Kp (fun b => b = s ∨ b = h) H (upd G s (.dK (ofs r' h t.mom (num + 1)))) := (kG.sub fun _ z => False.elim z).andD hs (.inl rfl)
        have ks : Kp (fun b => b = s) G (upd G s (.dK (ofs r' h t.mom (num + 1)))) := Kp.updD hs rfl
        have hJs : upd G s (.dK (ofs r' h t.mom (num + 1))) s = some (.dK (ofs r' h t.mom (num + 1))) := upd_same
        generalize upd G s (.dK (ofs r' h t.mom (num + 1))) = J at k3 ks hJs ⊢
        have hJh : J h = some (.dK kh) := ks.t.dK hh S.sh.symm
        have HdJ : HdAt J h g n := Hd.kt ks.t S.sh.symm
        have RJ : RwAt J r' (t.next (.deal hand ds)).rows (n + ds.length) := R.kt ks.t sr'.symm
        refine ⟨_, rfl, _, rfl, s, _, rfl, dgS hJs o_number, _, rfl, sz 3 (by decide), fun q nq => ?_⟩
        have kq : Kp No J (upd J q (.tup [.int x, .int (num + 1), .bl (!decide (oR o = V.non))])) := Kp.new nq
        have h2 := kq.t.dK hJh fun z => z
        have s2 := kq.t.dK hJs fun z => z
        refine ⟨_, rfl, s, _, rfl, dgS s2 o_hands, _, rfl, h, _, rfl, DPut.k (k := Sum.inl hand) h2 (szL (by omega)), ?_⟩
        have Hd3 := (HdJ.kt kq.t fun z => z).put (j := hand) h2 upd_same
        have k4 : Kp (fun b => b = h) J _ := (kq.sub (F' := fun b => b = h) fun _ z => False.elim z).andD (o' := .dK (putK kh (Sum.inl hand) (.ref q))) h2 rfl
        generalize hL : upd (upd J q (.tup [.int x, .int (num + 1), .bl (!decide (oR o = V.non))])) h (.dK (putK kh (Sum.inl hand) (.ref q))) = L at Hd3 k4 ⊢
        have L1 : L s = some (.dK (ofs r' h t.mom (num + 1))) := k4.t.dK hJs S.sh
        have L2 : L h = some (.dK (putK kh (Sum.inl hand) (.ref q))) := by rw [← hL, upd_same]
        have nqh : q ≠ h := (ne_of_none hJh nq).symm
        have L3 : L q = some (.tup [.int x, .int (num + 1), .bl (!decide (oR o = V.non))]) := by rw [← hL, upd_ne nqh, upd_same]
        have L4 := RJ.kt k4.t rh'
        have k5 : Kp (fun b => b = s ∨ b = h) H L := k3.trans k4 fun b z => .inl (.inr z)
        have dg : DGet L h (.int hand) (some (.ref q)) := by
          have := DGet.k (k := Sum.inl hand) L2
          rw [valV_put, if_pos rfl] at this
          exact this
        refine ⟨_, rfl, s, _, rfl, dgS L1 o_hands, _, rfl, h, _, rfl, dg, _, rfl, q, _, rfl, SqT.of L3, (show ¬(HT.sIx 3 0 (some 1) = 0 ∧ HT.sIx 3 3 none = 3) by decide), fun p np => ?_⟩
        have kp := Kp.new (F := No) (o := .tup (cutV [.int x, .int (num + 1), .bl (!decide (oR o = V.non))] (some 1) none)) np
        exact k _ r' hr' (k5.trans (F' := No) kp fun _ z => False.elim z) ⟨kp.t.dK L1 fun z => z, (L4.kt kp.t fun z => z).le (by omega), (Hd3.kt kp.t fun z => z).le (by omega), sr', S.sh, rh'⟩ _
end
end S16

set_option Elab.async false
set_option linter.all false
set_option maxRecDepth 100000
set_option maxHeartbeats 2000000
namespace S16
open PySem PySem.Spec PyProof.Rows L2 K5 SupX
theorem pickM {α : Type} (f : α → V) (l : List α) {r : Int} (h0 : 0 ≤ r) (h1 : r < l.length) : ∃ a, a ∈ l ∧ atI (l.map f) r = some (f a) := by
  have hl : r.toNat < l.length := by omega
  refine ⟨l[r.toNat], List.getElem_mem _, ?_⟩
  unfold atI
  rw [ixN_in h0 (by rw [List.length_map]; exact h1)]
  show (l.map f)[r.toNat]? = _
  rw [List.getElem?_map, List.getElem?_eq_getElem hl]
  rfl
theorem box_nf {H : Hp} {bx bi : Addr} (B : BoxAt H bx bi) : ∀ b kvs, H b = some (.dK kvs) → ¬ bF bx bi b := fun b kvs e z => by
  obtain ⟨ns, st, h1, h2, _⟩ := B.ex
  rcases z with z | z
  · rw [z, h1] at e; cases e
  · rw [z, h2] at e; cases e
theorem BoxAt.no {H G : Hp} {bx bi : Addr} (B : BoxAt H bx bi) (k : Kp No H G) : BoxAt G bx bi := B.kt k.t fun _ z => False.elim z
theorem BoxAt.new {H : Hp} {bx bi p : Addr} {o : HO} (B : BoxAt H bx bi) (n : H p = none) : BoxAt (upd H p o) bx bi := B.no (Kp.new n)
theorem new_nb {H : Hp} {bx bi p : Addr} (B : BoxAt H bx bi) (n : H p = none) : ¬ bF bx bi p := fun z => by
  obtain ⟨ns, st, h1, h2, _⟩ := B.ex
  rcases z with z | z
  · rw [z, h1] at n; cases n
  · rw [z, h2] at n; cases n
/-- a list that was made ahead of a draw is read behind it -/
theorem pickL {K : PySem.W.Frag} {H G : Hp} {bx bi p : Addr} {α : Type} (f : α → V) (l : List α) {r : Int} (B : BoxAt H bx bi) (n : H p = none) (k : Kp (bF bx bi) (upd H p (.lst (l.map f))) G) (h0 : 0 ≤ r) (h1 : r < l.length) :
    ∃ a, a ∈ l ∧ SqL K G p (l.map f) ∧ atI (l.map f) r = some (f a) := by
  obtain ⟨a, ha, e⟩ := pickM f l h0 h1
  exact ⟨a, ha, SqL.of (k.t.lst upd_same (new_nb B n)), e⟩
def RowsOk (f : Rw) : Prop := ∀ k w e, f k = some (w, e) → inB 0 999 w = true
theorem seen_ok {f : Rw} (h : RowsOk f) (m j : Int) : okW (seen m f j) = true := by
  unfold seen
  cases e : f j with
  | none => rfl
  | some p =>
    obtain ⟨wt, en⟩ := p
    show okW (if shB en m = true then some wt else none) = true
    split
    · exact h j wt en e
    · rfl
theorem rows_set {f : Rw} {j wt e : Int} (h : RowsOk f) (hw : inB 0 999 wt = true) : RowsOk (f.set j (some (wt, e))) := fun k w' e' q => by
  unfold Rw.set at q
  split at q
  · cases q
    exact hw
  · exact h k w' e' q
theorem rows_step {m : Int} {f g : Rw} {d : Dd} (h : RowsOk f) (hd : d.ok = true) (s : step m f d = some g) : RowsOk g := by
  cases d with
  | put j wt l =>
    cases s
    simp only [Dd.ok, Bool.and_eq_true] at hd
    exact rows_set h hd.2.1
  | drop j =>
    cases s
    intro k w' e' q
    unfold Rw.set at q
    split at q
    · cases q
    · exact h k w' e' q
  | add j x =>
    simp only [step] at s
    cases e : f j with
    | none => rw [e] at s; cases s
    | some p =>
      obtain ⟨wt, en⟩ := p
      rw [e] at s
      simp only at s
      split at s
      · rename_i q
        cases s
        exact rows_set h q.2
      · cases s
  | iff j x =>
    simp only [step] at s
    split at s
    · cases s
      exact h
    · cases s
theorem rows_steps {m : Int} : ∀ {ds : List Dd} {f g : Rw}, RowsOk f → (∀ d ∈ ds, d.ok = true) → steps m f ds = some g → RowsOk g
  | [], _, _, h, _, s => by
    cases s
    exact h
  | d :: ds, f, g, h, hd, s => by
    unfold steps at s
    cases q : step m f d with
    | none => rw [q] at s; cases s
    | some f2 =>
      rw [q] at s
      exact rows_steps (rows_step h (hd d List.mem_cons_self) q) (fun e he => hd e (List.mem_cons_of_mem _ he)) s
section
variable {P : Program} {w : World} {K : PySem.W.Frag} {mg : Str → Option Value} {base : Heap} {A : Ad}
theorem scdeed : FnScope ["_law_box", "_law_store_here", "_law_key", "_law_worth", "_law_way", "_law_life"] ["_law_box", "_law_store_here"] (defScope s_deed) := ⟨rfl, rfl, rfl, by decide +kernel, rfl, by decide +kernel, by decide +kernel⟩
def spDeedL : Sp := fun vs H Q _ => ∃ (bx bi s r h : Addr) (t : Tb) (g : Ls) (num : Int) (n : Nat), vs = [.ref bx, .ref s] ∧ BoxAt H bx bi ∧ StAt H s r h t g num n ∧ RowsOk t.rows ∧
  ∀ G v d, BoxAt G bx bi → Kp (bF bx bi) H G → DdAt G v d → d.ok = true → Q v G
theorem ok_deed (T : Txt K mg A) : ∃ fd, FnOk P w K mg base CX0 2 (A.d 53) fd ["_law_box", "_law_store_here"] spDeedL ∧ Binds K fd ["_law_box", "_law_store_here"] [] := by
  obtain ⟨fd, F⟩ := T.deed.fn
  obtain ⟨fdT, Gtake, btake⟩ := ok_take (P := P) (w := w) (base := base) T
  obtain ⟨fdS, Gseen, bseen⟩ := ok_seen (P := P) (w := w) (base := base) T
  refine ⟨fd, F.ok scdeed (fun vs H Q E h => ?_) (fun cdv Ar outer s0 H vs Q E hr h => ?_), F.binds fun _ _ _ _ _ _ us hl => match us, hl with | [_, _], _ => rfl⟩
  · obtain ⟨bx, bi, s, r, h, t, g, num, n, rfl, _⟩ := h
    rfl
  · obtain ⟨bx, bi, s, r, h, t, g, num, n, rfl, B, S, ok, k⟩ := h
    have hu := hu_of hr
    refine ⟨_, (pss_cons (ps_set (i := 2) scdeed.nd rfl (Or.inl rfl) (pe_call Gtake (hr.mono (by first | decide | omega)) rfl T.take.at_ T.take.kp btake .nil pass0 (pa_cons (pv 0) (pa_cons (pe_ix ix_list (pe_lst (pa_cons pe_int (pa_cons pe_int (pa_cons pe_int pa_nil)))) (pe_call Gtake (hr.mono (by first | decide | omega)) rfl T.take.at_ T.take.kp btake .nil pass0 (pa_cons (pv 0) (pa_cons pe_int pa_nil))) (fun _ _ => rfl)) pa_nil))))
      (pss_cons (ps_set (i := 3) scdeed.nd rfl (Or.inl rfl) (pe_call Gseen (hr.mono (by first | decide | omega)) rfl T.seen.at_ T.seen.kp bseen .nil pass0 (pa_cons (pv 1) (pa_cons (pv 2) pa_nil))))
      (pss_cons (ps_set (i := 4) scdeed.nd rfl (Or.inl rfl) (pe_call Gtake (hr.mono (by first | decide | omega)) rfl T.take.at_ T.take.kp btake .nil pass0 (pa_cons (pv 0) (pa_cons pe_int pa_nil))))
      (pss_cons (ps_if (pt_cmpR op_lt (pv 4) pe_int (nomark _))
        (pss_cons (ps_set (i := 5) scdeed.nd rfl (Or.inl rfl) (pe_ix ix_list (pe_lst (pa_cons pe_int (pa_cons (pe_op op_add pe_int (pe_call Gtake (hr.mono (by first | decide | omega)) rfl T.take.at_ T.take.kp btake .nil pass0 (pa_cons (pv 0) (pa_cons pe_int pa_nil)))) (pa_cons (pe_op op_add pe_int (pe_call Gtake (hr.mono (by first | decide | omega)) rfl T.take.at_ T.take.kp btake .nil pass0 (pa_cons (pv 0) (pa_cons pe_int pa_nil)))) pa_nil)))) (pe_call Gtake (hr.mono (by first | decide | omega)) rfl T.take.at_ T.take.kp btake .nil pass0 (pa_cons (pv 0) (pa_cons pe_int pa_nil))) (fun _ _ => rfl)))
        (pss_one (ps_ret (pe_tup (pa_cons pe_str (pa_cons (pv 2) (pa_cons (pe_ix ix_list (pe_lst (pa_cons (pe_call Gtake (hr.mono (by first | decide | omega)) rfl T.take.at_ T.take.kp btake .nil pass0 (pa_cons (pv 0) (pa_cons pe_int pa_nil))) (pa_cons pe_int (pa_cons pe_int pa_nil)))) (pe_call Gtake (hr.mono (by first | decide | omega)) rfl T.take.at_ T.take.kp btake .nil pass0 (pa_cons (pv 0) (pa_cons pe_int pa_nil))) (fun _ _ => rfl)) (pa_cons (pv 5) pa_nil))))))))
        pss_nil)
      (pss_cons (ps_if (pt_cmpR op_eq (pv 4) pe_int (nomark _))
        (pss_one (ps_ret (pe_tup (pa_cons pe_str (pa_cons (pv 2) pa_nil)))))
        pss_nil)
      (pss_cons (ps_if (pt_cmpR op_lt (pv 4) pe_int (nomark _))
        (pss_one (ps_ret (pe_tup (pa_cons pe_str (pa_cons (pv 2) (pa_cons (pe_ix ix_list (pe_lst (pa_cons (pe_op op_sub (pe_call Gtake (hr.mono (by first | decide | omega)) rfl T.take.at_ T.take.kp btake .nil pass0 (pa_cons (pv 0) (pa_cons pe_int pa_nil))) pe_int) (pa_cons (pe_op op_sub (pe_call Gtake (hr.mono (by first | decide | omega)) rfl T.take.at_ T.take.kp btake .nil pass0 (pa_cons (pv 0) (pa_cons pe_int pa_nil))) pe_int) pa_nil))) (pe_call Gtake (hr.mono (by first | decide | omega)) rfl T.take.at_ T.take.kp btake .nil pass0 (pa_cons (pv 0) (pa_cons pe_int pa_nil))) (fun _ _ => rfl)) pa_nil))))))
        pss_nil)
      (pss_one (ps_ret (pe_tup (pa_cons pe_str (pa_cons (pv 2) (pa_cons (pe_ix ix_list (pe_lst (pa_cons (pv 3) (pa_cons (pv 3) (pa_cons (pv 3) (pa_cons pe_non (pa_cons (pe_call Gtake (hr.mono (by first | decide | omega)) rfl T.take.at_ T.take.kp btake .nil pass0 (pa_cons (pv 0) (pa_cons pe_int pa_nil))) pa_nil)))))) (pe_call Gtake (hr.mono (by first | decide | omega)) rfl T.take.at_ T.take.kp btake .nil pass0 (pa_cons (pv 0) (pa_cons pe_int pa_nil))) (fun _ _ => rfl)) pa_nil)))))))))))), ?_⟩
    have big : ∀ m : Int, 0 < m → m ≤ 2000 → m.natAbs < 2 ^ 90 := fun m h1 h2 => Nat.lt_of_le_of_lt (by omega : m.natAbs ≤ 2000) (by decide)
    -- the key
    refine ⟨_, rfl, sz 3 (by decide), fun p1 n1 => ⟨_, rfl, bx, bi, 3, rfl, B.new n1, by decide, by decide, fun r1 G1 a1 b1 B1 k1 => ?_⟩⟩
    obtain ⟨m1, hm1, e1⟩ := pickM V.int [2, 6, 32] a1 b1
    have g1 : 2 ≤ m1 ∧ m1 ≤ 32 := by
      simp only [List.mem_cons, List.not_mem_nil, or_false] at hm1
      omega
    have l1 : upd H p1 (.lst [.int 2, .int 6, .int 32]) p1 = some (.lst [.int 2, .int 6, .int 32]) := upd_same
    have nb1 : ¬ bF bx bi p1 := fun z => by
      obtain ⟨ns, st, h1, h2, _⟩ := B.ex
      rcases z with z | z
      · rw [z, h1] at n1; cases n1
      · rw [z, h2] at n1; cases n1
    refine ⟨p1, _, r1, .int m1, rfl, rfl, SqL.of (k1.t.lst l1 nb1), e1, bx, bi, m1, rfl, B1, by omega, big m1 (by omega) (by omega), fun key G2 a2 b2 B2 k2 => ?_⟩
    have K2 : Kp (bF bx bi) H G2 := ((Kp.new n1).trans k1 fun _ z => .inl z).trans k2 fun _ z => .inl z
    -- the worth
    refine ⟨_, rfl, _, rfl, s, r, h, key, t, g, num, n, rfl, S.kt K2.t (box_nf B), fun G3 k3 => ?_⟩
    have K3 : Kp (bF bx bi) H G3 := K2.trans k3 fun _ z => False.elim z
    have B3 := B2.no k3
    have okw := seen_ok ok t.mom key
    generalize seen t.mom t.rows key = x at okw ⊢
    -- the way
    refine ⟨_, rfl, bx, bi, 10, rfl, B3, by decide, by decide, fun way G4 a4 b4 B4 k4 => ?_⟩
    have K4 : Kp (bF bx bi) H G4 := K3.trans k4 fun _ z => .inl z
    refine ⟨_, rfl, _, _, rfl, rfl, _, rfl, ite2 (fun w5 => ?_) (fun w5 => ?_)⟩
    · -- a put
      refine ⟨_, rfl, bx, bi, 9, rfl, B4, by decide, by decide, fun x1 G5 a5 b5 B5 k5 => ⟨_, _, rfl, rfl, ?_⟩⟩
      refine ⟨_, rfl, bx, bi, 1000, rfl, B5, by decide, by decide, fun x2 G6 a6 b6 B6 k6 => ⟨_, _, rfl, rfl, sz 3 (by decide), fun p2 n2 => ?_⟩⟩
      refine ⟨_, rfl, bx, bi, 3, rfl, B6.new n2, by decide, by decide, fun r2 G7 a7 b7 B7 k7 => ?_⟩
      obtain ⟨l, hl, sl, el⟩ := pickL (K := K) V.int [0, 1 + x1, 1 + x2] B6 n2 k7 a7 b7
      have hl2 : 0 ≤ l ∧ l ≤ 1000 := by
        simp only [List.mem_cons, List.not_mem_nil, or_false] at hl
        omega
      have K7 : Kp (bF bx bi) H G7 := ((((K4.trans k5 fun _ z => .inl z).trans k6 fun _ z => .inl z).andN n2).trans k7 fun _ z => .inl z)
      refine ⟨p2, _, r2, .int l, rfl, rfl, sl, el, ?_⟩
      refine ⟨_, rfl, _, rfl, bx, bi, 1000, rfl, B7, by decide, by decide, fun x3 G8 a8 b8 B8 k8 => ⟨sz 3 (by decide), fun p3 n3 => ?_⟩⟩
      refine ⟨_, rfl, bx, bi, 3, rfl, B8.new n3, by decide, by decide, fun r3 G9 a9 b9 B9 k9 => ?_⟩
      obtain ⟨wt, hwt, sw, ew⟩ := pickL (K := K) V.int [x3, 999, 0] B8 n3 k9 a9 b9
      have hw2 : 0 ≤ wt ∧ wt ≤ 999 := by
        simp only [List.mem_cons, List.not_mem_nil, or_false] at hwt
        omega
      have K9 : Kp (bF bx bi) H G9 := ((K7.trans k8 fun _ z => .inl z).andN n3).trans k9 fun _ z => .inl z
      refine ⟨p3, _, r3, .int wt, rfl, rfl, sw, ew, _, rfl, sz 4 (by decide), fun u nu => ?_⟩
      exact k _ _ (.put key wt l) (B9.new nu) (K9.andN nu) ⟨u, rfl, upd_same⟩ (by simp only [Dd.ok, Bool.and_eq_true, inB_t]; omega)
    · refine ⟨_, rfl, rfl, _, rfl, ite2 (fun w6 => ?_) (fun w6 => ?_)⟩
      · -- a drop
        refine ⟨_, rfl, sz 2 (by decide), fun u nu => ?_⟩
        exact k _ _ (.drop key) (B4.new nu) (K4.andN nu) ⟨u, rfl, upd_same⟩ (by simp only [Dd.ok, inB_t]; omega)
      · refine ⟨_, rfl, _, _, rfl, rfl, _, rfl, ite2 (fun w8 => ?_) (fun w8 => ?_)⟩
        · -- an add
          refine ⟨_, rfl, _, rfl, bx, bi, 9, rfl, B4, by decide, by decide, fun x1 G5 a5 b5 B5 k5 => ⟨_, _, rfl, rfl, ?_⟩⟩
          refine ⟨_, rfl, bx, bi, 1999, rfl, B5, by decide, by decide, fun x2 G6 a6 b6 B6 k6 => ⟨_, _, rfl, rfl, sz 2 (by decide), fun p2 n2 => ?_⟩⟩
          refine ⟨_, rfl, bx, bi, 2, rfl, B6.new n2, by decide, by decide, fun r2 G7 a7 b7 B7 k7 => ?_⟩
          obtain ⟨l, hl, sl, el⟩ := pickL (K := K) V.int [x1 - 4, x2 - 999] B6 n2 k7 a7 b7
          have hl2 : -999 ≤ l ∧ l ≤ 999 := by
            simp only [List.mem_cons, List.not_mem_nil, or_false] at hl
            omega
          have K7 : Kp (bF bx bi) H G7 := ((((K4.trans k5 fun _ z => .inl z).trans k6 fun _ z => .inl z).andN n2).trans k7 fun _ z => .inl z)
          refine ⟨p2, _, r2, .int l, rfl, rfl, sl, el, sz 3 (by decide), fun u nu => ?_⟩
          exact k _ _ (.add key l) (B7.new nu) (K7.andN nu) ⟨u, rfl, upd_same⟩ (by simp only [Dd.ok, Bool.and_eq_true, inB_t]; omega)
        · -- an if
          refine ⟨_, rfl, _, rfl, _, rfl, _, rfl, _, rfl, bx, bi, 1000, rfl, B4, by decide, by decide, fun x1 G5 a5 b5 B5 k5 => ⟨sz 5 (by decide), fun p2 n2 => ?_⟩⟩
          refine ⟨_, rfl, bx, bi, 5, rfl, B5.new n2, by decide, by decide, fun r2 G7 a7 b7 B7 k7 => ?_⟩
          obtain ⟨y, hy, sy, ey⟩ := pickL (K := K) oV [x, x, x, none, some x1] B5 n2 k7 a7 b7
          have oky : okW y = true := by
            simp only [List.mem_cons, List.not_mem_nil, or_false] at hy
            rcases hy with rfl | rfl | rfl | rfl | rfl
            · exact okw
            · exact okw
            · exact okw
            · rfl
            · exact inB_t.mpr ⟨a5, by omega⟩
          have K7 : Kp (bF bx bi) H G7 := ((K4.trans k5 fun _ z => .inl z).andN n2).trans k7 fun _ z => .inl z
          refine ⟨p2, _, r2, oV y, rfl, rfl, sy, ey, sz 3 (by decide), fun u nu => ?_⟩
          refine k _ _ (.iff key y) (B7.new nu) (K7.andN nu) ⟨u, rfl, upd_same⟩ ?_
          have ik : inB 0 31 key = true := inB_t.mpr ⟨a2, by omega⟩
          cases y with
          | none => exact ik
          | some y =>
            show (inB 0 31 key && inB 0 999 y) = true
            rw [ik]
            exact oky
end
end S16

set_option Elab.async false
set_option linter.all false
set_option maxRecDepth 100000
set_option maxHeartbeats 2000000
namespace S16
open PySem PySem.Spec PyProof.Rows L2 K5 SupX
section
variable {P : Program} {w : World} {K : PySem.W.Frag} {mg : Str → Option Value} {base : Heap} {A : Ad}
abbrev Nscdrawn : List Str := ["_law_box", "_law_store_here", "_law_turn"]
theorem scdrawn : FnScope Nscdrawn ["_law_box", "_law_store_here"] (defScope s_drawn) := ⟨rfl, rfl, rfl, by decide +kernel, rfl, by decide +kernel, by decide +kernel⟩
def spDrawn : Sp := fun vs H Q _ => ∃ (bx bi s r h : Addr) (t : Tb) (g : Ls) (num : Int) (n : Nat), vs = [.ref bx, .ref s] ∧ BoxAt H bx bi ∧ StAt H s r h t g num n ∧ RowsOk t.rows ∧
  ∀ G v ds, BoxAt G bx bi → Kp (bF bx bi) H G → DsAt G v ds → (∀ d ∈ ds, d.ok = true) → 1 ≤ ds.length → ds.length ≤ 4 → Q v G
theorem ok_drawn (T : Txt K mg A) : ∃ fd, FnOk P w K mg base CX0 3 (A.d 54) fd ["_law_box", "_law_store_here"] spDrawn ∧ Binds K fd ["_law_box", "_law_store_here"] [] := by
  obtain ⟨fd, F⟩ := T.drawn.fn
  obtain ⟨fdT, Gtake, btake⟩ := ok_take (P := P) (w := w) (base := base) T
  obtain ⟨fdS, Gdeed, bdeed⟩ := ok_deed (P := P) (w := w) (base := base) T
  refine ⟨fd, F.ok scdrawn (fun vs H Q E h => ?_) (fun cdv Ar outer s0 H vs Q E hr h => ?_), F.binds fun _ _ _ _ _ _ us hl => match us, hl with | [_, _], _ => rfl⟩
  · obtain ⟨bx, bi, s, r, h, t, g, num, n, rfl, _⟩ := h
    rfl
  · obtain ⟨bx, bi, s, r, h, t, g, num, n, rfl, B, S, ok, k⟩ := h
    have hu := hu_of hr
    refine ⟨_, (pss_one (ps_ret (pe_callTy call_tuple_of (by rfl) T.tuple (by decide +kernel) (pa_cons (pe_lc (own := [("_law_turn", 2)]) (g := (gName 2)) (by rfl) scdrawn.nd (pi_range1 (by rfl) T.range (pa_cons (pe_op op_add pe_int (pe_call Gtake (hr.mono (by first | decide | omega)) rfl T.take.at_ T.take.kp btake .nil pass0 (pa_cons (pv 0) (pa_cons (pe_ix ix_list (pe_lst (pa_cons pe_int (pa_cons pe_int (pa_cons pe_int pa_nil)))) (pe_call Gtake (hr.mono (by first | decide | omega)) rfl T.take.at_ T.take.kp btake .nil pass0 (pa_cons (pv 0) (pa_cons pe_int pa_nil))) (fun _ _ => rfl)) pa_nil)))) pa_nil)) (blkOk_by (N := Nscdrawn) (sc := defScope s_drawn) (by decide +kernel)) (fun _ _ _ _ _ => pg_name (i := 2) scdrawn.nd rfl (Or.inl rfl)) (fun _ _ _ _ _ => pts_nil) (fun _ _ _ _ _ => (pe_call Gdeed (hr.mono (by first | decide | omega)) rfl T.deed.at_ T.deed.kp bdeed .nil pass0 (pa_cons (pv 0) (pa_cons (pv 1) pa_nil))))) pa_nil)))), ?_⟩
    refine ⟨_, rfl, sz 3 (by decide), fun p1 n1 => ⟨_, rfl, bx, bi, 3, rfl, B.new n1, by decide, by decide, fun r1 G1 a1 b1 B1 k1 => ?_⟩⟩
    obtain ⟨m1, hm1, s1, e1⟩ := pickL (K := K) V.int [1, 2, 4] B n1 k1 a1 b1
    have g1 : 1 ≤ m1 ∧ m1 ≤ 4 := by
      simp only [List.mem_cons, List.not_mem_nil, or_false] at hm1
      omega
    refine ⟨p1, _, r1, .int m1, rfl, rfl, s1, e1, bx, bi, m1, rfl, B1, by omega, Nat.lt_of_le_of_lt (by omega : m1.natAbs ≤ 2000) (by decide), fun c G2 a2 b2 B2 k2 => ?_⟩
    have K2 : Kp (bF bx bi) H G2 := ((Kp.new n1).trans k1 fun _ z => .inl z).trans k2 fun _ z => .inl z
    refine ⟨_, _, rfl, rfl, 1 + c, rfl, by omega, by omega, fun D nD => ?_⟩
    have KD : Kp (fun b => bF bx bi b ∨ b = D) H (upd G2 D (.lst [])) := (K2.sub fun _ z => .inl z).andN nD
    have nbD : ¬ bF bx bi D := new_nb B2 nD
    have HD : H D = none := K2.free nD fun z => absurd z nbD
    refine lc_range (lo := 0) (n := (1 + c).toNat) (fun i G => Kp (fun b => bF bx bi b ∨ b = D) H G ∧ BoxAt G bx bi ∧ ∃ acc ds, G D = some (.lst acc) ∧ Paired (DdAt G) acc ds ∧ ds.length = i ∧ ∀ d ∈ ds, d.ok = true) ⟨KD, B2.new nD, [], [], upd_same, .nil, rfl, fun _ z => by cases z⟩ ?_ ?_
    · rintro i G hi ⟨kp, BG, acc, ds, hD, pd, hl, hok⟩
      have nfS : ∀ b kvs, H b = some (.dK kvs) → ¬ (bF bx bi b ∨ b = D) := fun b kvs e z => by
        rcases z with z | z
        · exact box_nf B b kvs e z
        · rw [z, HD] at e; cases e
      refine ⟨rfl, _, rfl, _, rfl, bx, bi, s, r, h, t, g, num, n, rfl, BG, S.kt kp.t nfS, ok, fun G3 v d B3 k3 hv hd => ?_⟩
      have hD3 : G3 D = some (.lst acc) := k3.t.lst hD nbD
      have k4 : Kp (fun b => b = D) G3 (upd G3 D (.lst (acc ++ [v]))) := Kp.updL hD3 rfl
      refine ⟨acc, hD3, szL (by rw [pd.length, hl]; omega), (kp.trans k3 fun _ z => .inl (.inl z)).trans k4 (fun b z => .inl (.inr z)), B3.kt k4.t (fun a z => by rw [z]; exact nbD), acc ++ [v], ds ++ [d], upd_same, ?_, by simp [hl], fun e he => ?_⟩
      · exact (pd.mono fun _ _ z => (z.kt k3.t).kt k4.t).snoc (hv.kt k4.t)
      · rcases List.mem_append.mp he with he | he
        · exact hok e he
        · rw [List.mem_singleton.mp he]; exact hd
    · rintro G ⟨kp, BG, acc, ds, hD, pd, hl, hok⟩
      refine ⟨D, acc, rfl, .inl ⟨SqL.of hD, fun q nq => ?_⟩⟩
      have kq : Kp No G (upd G q (.tup acc)) := Kp.new nq
      refine k _ _ ds (BG.no kq) ?_ ⟨q, acc, rfl, upd_same, pd.mono fun _ _ z => z.kt kq.t, by omega⟩ hok (by omega) (by omega)
      exact fun b o e n => (kp.andN nq) b o e fun m z => by
        rcases z with z | z
        · exact n m z
        · rw [z, HD] at e; cases e
end
end S16

set_option Elab.async false
set_option linter.all false
set_option maxRecDepth 100000
set_option maxHeartbeats 4000000
namespace S16
open PySem PySem.Spec PyProof.Rows L2 K5 SupX
theorem StAt.le {H : Hp} {s r h : Addr} {t : Tb} {g : Ls} {num : Int} {n m : Nat} (S : StAt H s r h t g num n) (l : n ≤ m) : StAt H s r h t g num m := ⟨S.dc, S.rows.le l, S.hands.le l, S.sr, S.sh, S.rh⟩
/-- one of the law's tables -/
def SsAt (m : Nat) (H : Hp) (v : V) (t : Tb) : Prop := ∃ (s r h : Addr) (g : Ls) (num : Int), v = .ref s ∧ StAt H s r h t g num m ∧ RowsOk t.rows
theorem SsAt.kt {F : Addr → Prop} {H G : Hp} {m : Nat} (k : Kt F H G) {v : V} {t : Tb} (h : SsAt m H v t) (nf : ∀ b kvs, H b = some (.dK kvs) → ¬ F b) : SsAt m G v t := by
  obtain ⟨s, r, h, g, num, e, S, ok⟩ := h
  exact ⟨s, r, h, g, num, e, S.kt k nf, ok⟩
theorem SsAt.le {H : Hp} {m n : Nat} {v : V} {t : Tb} (h : SsAt m H v t) (l : m ≤ n) : SsAt n H v t := by
  obtain ⟨s, r, h, g, num, e, S, ok⟩ := h
  exact ⟨s, r, h, g, num, e, S.le l, ok⟩
theorem badFrom_ok : ∀ {ds : List Dd} {i : Nat}, i + ds.length ≤ 4 → (∀ d ∈ ds, d.ok = true) → badFrom i ds = none
  | [], _, _, _ => rfl
  | d :: ds, i, h, q => by
    simp only [List.length_cons] at h
    unfold badFrom
    rw [if_neg (fun z => by
      rcases z with z | z
      · omega
      · rw [q d List.mem_cons_self] at z; cases z)]
    exact badFrom_ok (by omega) fun e he => q e (List.mem_cons_of_mem _ he)
theorem dealBad_ok {ds : List Dd} (h1 : 1 ≤ ds.length) (h4 : ds.length ≤ 4) (q : ∀ d ∈ ds, d.ok = true) : dealBad ds = none := by
  unfold dealBad
  rw [if_neg (fun z => by rw [z] at h1; simp at h1)]
  exact badFrom_ok (by omega) q
section
variable {P : Program} {w : World} {K : PySem.W.Frag} {mg : Str → Option Value} {base : Heap} {A : Ad}
abbrev Nscentries : List Str := ["_law_box", "_law_stores", "_law_entries_here", "_law_turn", "_law_store_here", "_law_deal_here", "_law_hand"]
theorem scentries : FnScope Nscentries ["_law_box"] (defScope s_entries) := ⟨rfl, rfl, rfl, by decide +kernel, rfl, by decide +kernel, by decide +kernel⟩
def spEntries : Sp := fun vs H Q _ => ∃ (bx bi : Addr), vs = [.ref bx] ∧ BoxAt H bx bi ∧
  ∀ G p E S xs ys es, BoxAt G bx bi → Kp (bF bx bi) H G → H E = none → H S = none → E ≠ S → G p = some (.tup [.ref E, .ref S]) → G E = some (.lst xs) → Paired (EnAt G) xs es → G S = some (.lst ys) → Paired (SsAt 200 G) ys (tbs Tb.new es) → es.length ≤ 40 → badE Tb.new es = none → Q (.ref p) G
theorem ok_entries (T : Txt K mg A) : ∃ fd, FnOk P w K mg base CX0 4 (A.d 55) fd ["_law_box"] spEntries ∧ Binds K fd ["_law_box"] [] := by
  obtain ⟨fd, F⟩ := T.entries.fn
  obtain ⟨fdT, Gtake, btake⟩ := ok_take (P := P) (w := w) (base := base) T
  obtain ⟨fdS, Gstore, bstore⟩ := ok_store (P := P) (w := w) (base := base) T
  obtain ⟨fdA, Gagain, bagain⟩ := ok_again (P := P) (w := w) (base := base) T
  obtain ⟨fdD, Gdrawn, bdrawn⟩ := ok_drawn (P := P) (w := w) (base := base) T
  obtain ⟨fdL, Gdeal, bdeal⟩ := ok_deal (P := P) (w := w) (base := base) T
  refine ⟨fd, F.ok scentries (fun vs H Q E h => ?_) (fun cdv Ar outer s0 H vs Q E hr h => ?_), F.binds fun _ _ _ _ _ _ us hl => match us, hl with | [_], _ => rfl⟩
  · obtain ⟨bx, bi, rfl, _⟩ := h
    rfl
  · obtain ⟨bx, bi, rfl, B, k⟩ := h
    have hu := hu_of hr
    refine ⟨_, (pss_cons (ps_set (i := 1) scentries.nd rfl (Or.inl rfl) (pe_lst (pa_cons (pe_call0 Gstore (hr.mono (by first | decide | omega)) rfl T.store.at_ T.store.kp bstore .nil pass0) pa_nil)))
      (pss_cons (ps_set (i := 2) scentries.nd rfl (Or.inl rfl) (pe_lst pa_nil))
      (pss_cons (ps_for PassesOwn.never rfl (pi_range1 (by rfl) T.range (pa_cons (pe_call Gtake (hr.mono (by first | decide | omega)) rfl T.take.at_ T.take.kp btake .nil pass0 (pa_cons (pv 0) (pa_cons (pe_ix ix_list (pe_lst (pa_cons pe_int (pa_cons pe_int pa_nil))) (pe_call Gtake (hr.mono (by first | decide | omega)) rfl T.take.at_ T.take.kp btake .nil pass0 (pa_cons (pv 0) (pa_cons pe_int pa_nil))) (fun _ _ => rfl)) pa_nil))) pa_nil)) (pg_name (i := 3) scentries.nd rfl (Or.inl rfl))
        (pss_cons (ps_set (i := 4) scentries.nd rfl (Or.inl rfl) (pe_call Gagain (hr.mono (by first | decide | omega)) rfl T.again.at_ T.again.kp bagain .nil pass0 (pa_cons (pe_ix ix_list (pv 1) (pe_un un_neg pe_int) (fun _ _ => rfl)) pa_nil)))
        (C8.pss_cut (ps_if (PW.pt (pw_and (pt_cmpR op_eq (pe_call Gtake (hr.mono (by first | decide | omega)) rfl T.take.at_ T.take.kp btake .nil pass0 (pa_cons (pv 0) (pa_cons pe_int pa_nil))) pe_int (nomark _)) (pw_and1 (pt_cmpR op_lt (pe_dget hu (pv 4) pe_str (fun _ _ => rfl)) (pe_op op_mul pe_int (pe_op op_pow pe_int pe_int)) (nomark _)))))
          (pss_cons (ps_dput hu (pv 4) pe_str (pe_op op_add (pe_op op_add (pe_dget hu (pv 4) pe_str (fun _ _ => rfl)) pe_int) (pe_call Gtake (hr.mono (by first | decide | omega)) rfl T.take.at_ T.take.kp btake .nil pass0 (pa_cons (pv 0) (pa_cons (pe_ix ix_list (pe_lst (pa_cons pe_int (pa_cons pe_int pa_nil))) (pe_call Gtake (hr.mono (by first | decide | omega)) rfl T.take.at_ T.take.kp btake .nil pass0 (pa_cons (pv 0) (pa_cons pe_int pa_nil))) (fun _ _ => rfl)) pa_nil)))) rfl)
          (pss_cons (ps_dput hu (pv 4) pe_str (pe_op op_add (pe_dget hu (pv 4) pe_str (fun _ _ => rfl)) pe_int) rfl)
          (pss_one (ps_expr (pe_bm PySem.F.plainAttrs_list PySem.F.slot_list_append PySem.F.type_list_append mt_append (pv 2) (pa_cons (pe_tup (pa_cons pe_str (pa_cons (pe_dget hu (pv 4) pe_str (fun _ _ => rfl)) pa_nil))) pa_nil))))))
          (pss_cons (ps_set (i := 5) scentries.nd rfl (Or.inl rfl) (pe_call Gdrawn (hr.mono (by first | decide | omega)) rfl T.drawn.at_ T.drawn.kp bdrawn .nil pass0 (pa_cons (pv 0) (pa_cons (pv 4) pa_nil))))
          (pss_cons (ps_set (i := 6) scentries.nd rfl (Or.inl rfl) (pe_call Gtake (hr.mono (by first | decide | omega)) rfl T.take.at_ T.take.kp btake .nil pass0 (pa_cons (pv 0) (pa_cons pe_int pa_nil))))
          (pss_cons (ps_expr (pe_bm PySem.F.plainAttrs_list PySem.F.slot_list_append PySem.F.type_list_append mt_append (pv 2) (pa_cons (pe_tup (pa_cons pe_str (pa_cons (pv 6) (pa_cons (pv 5) pa_nil)))) pa_nil)))
          (pss_one (ps_expr (pe_call Gdeal (hr.mono (by first | decide | omega)) rfl T.deal.at_ T.deal.kp bdeal .nil pass0 (pa_cons (pv 4) (pa_cons (pv 6) (pa_cons (pe_op op_add (pe_ix ix_tup (pe_dget2 hu (pe_dget hu (pv 4) pe_str (fun _ _ => rfl)) (pv 6) (pe_tup (pa_cons pe_int pa_nil)) ⟨rfl, rfl, rfl, rfl⟩) pe_int (fun _ _ => rfl)) pe_int) (pa_cons (pv 5) pa_nil)))))))))))
        (pss_one (ps_expr (pe_bm PySem.F.plainAttrs_list PySem.F.slot_list_append PySem.F.type_list_append mt_append (pv 1) (pa_cons (pv 4) pa_nil)))))))
      (pss_one (ps_ret (pe_tup (pa_cons (pv 2) (pa_cons (pv 1) pa_nil)))))))), ?_⟩
    have big : ∀ m : Int, 0 < m → m ≤ 2000 → m.natAbs < 2 ^ 90 := fun m h1 h2 => Nat.lt_of_le_of_lt (by omega : m.natAbs ≤ 2000) (by decide)
    refine ⟨rfl, fun G0 s0 r0 h0 ns0 nr0 nh0 St0 k0 => ⟨sz 1 (by decide), fun S nS => ⟨Nat.zero_le _, fun E nE => ?_⟩⟩⟩
    obtain ⟨nES, nE0⟩ := upd_none nE
    have nSH : H S = none := k0.free nS fun z => False.elim z
    have nEH : H E = none := k0.free nE0 fun z => False.elim z
    have hSb : ¬ bF bx bi S := new_nb B nSH
    have hEb : ¬ bF bx bi E := new_nb B nEH
    have k1 : Kp No H (upd (upd G0 S (.lst [.ref s0])) E (.lst [])) := (k0.andN nS).andN nE
    have S1 : StAt (upd (upd G0 S (.lst [.ref s0])) E (.lst [])) s0 r0 h0 Tb.new (fun _ => 0) 0 0 := St0.kt ((Kp.new nS).andN nE : Kp No G0 _).t fun _ _ _ z => z
    have hS1 : upd (upd G0 S (.lst [.ref s0])) E (.lst []) S = some (.lst [.ref s0]) := by rw [upd_ne nES.symm, upd_same]
    have hE1 : upd (upd G0 S (.lst [.ref s0])) E (.lst []) E = some (.lst []) := upd_same
    generalize upd (upd G0 S (.lst [.ref s0])) E (.lst []) = G1 at k1 S1 hS1 hE1 ⊢
    have B1 : BoxAt G1 bx bi := B.no k1
    refine ⟨_, rfl, sz 2 (by decide), fun p1 n1 => ⟨_, rfl, bx, bi, 2, rfl, B1.new n1, by decide, by decide, fun r1 G2 a1 b1 B2 k2 => ?_⟩⟩
    obtain ⟨m1, hm1, s1, e1⟩ := pickL (K := K) V.int [8, 40] B1 n1 k2 a1 b1
    have g1 : 8 ≤ m1 ∧ m1 ≤ 40 := by
      simp only [List.mem_cons, List.not_mem_nil, or_false] at hm1
      omega
    refine ⟨p1, _, r1, .int m1, rfl, rfl, s1, e1, bx, bi, m1, rfl, B2, by omega, big m1 (by omega) (by omega), fun c G3 c0 c1 B3 k3 => ⟨c, rfl, by omega, by omega, ?_⟩⟩
    have K13 : Kp (bF bx bi) G1 G3 := ((Kp.new n1).trans k2 fun _ z => .inl z).trans k3 fun _ z => .inl z
    have nfb : ∀ b kvs, G1 b = some (.dK kvs) → ¬ bF bx bi b := box_nf B1
    refine for_range (lo := 0) (n := c.toNat) (fun i σ G => (∃ o3 o4 o5 o6, σ = [some (.ref bx), some (.ref S), some (.ref E), o3, o4, o5, o6]) ∧ Kp (fun b => bF bx bi b ∨ b = E ∨ b = S) H G ∧ BoxAt G bx bi ∧ ∃ xs y0 v es, G E = some (.lst xs) ∧ Paired (EnAt G) xs es ∧ G S = some (.lst (y0 ++ [v])) ∧ Paired (SsAt (5 * i) G) (y0 ++ [v]) (tbs Tb.new es) ∧ SsAt (5 * i) G v (lastT Tb.new es) ∧ es.length = i ∧ badE Tb.new es = none)
      ⟨⟨_, _, _, _, rfl⟩, (k1.sub fun _ z => False.elim z).trans K13 fun _ z => .inl (.inl z), B3, [], [], .ref s0, [], K13.t.lst hE1 hEb, .nil, K13.t.lst hS1 hSb, ?_, ?_, rfl, rfl⟩ ?_ ?_
    · exact .cons ⟨s0, r0, h0, _, _, rfl, S1.kt K13.t nfb, fun _ _ _ z => by cases z⟩ .nil
    · exact ⟨s0, r0, h0, _, _, rfl, S1.kt K13.t nfb, fun _ _ _ z => by cases z⟩
    · rintro i σ G hi ⟨⟨o3, o4, o5, o6, rfl⟩, kp, BG, xs, y0, v, es, hE, pE, hS, pS, ⟨s, r, h, g, num, rfl, St, ok⟩, hl, hbE⟩
      have hi40 : i < 40 := by omega
      generalize hT : lastT Tb.new es = t at St ok
      have nfG : ∀ b kvs, G b = some (.dK kvs) → ¬ (bF bx bi b ∨ b = E ∨ b = S) := fun b kvs e z => by
        rcases z with z | z | z
        · exact box_nf BG b kvs e z
        · rw [z, hE] at e; cases e
        · rw [z, hS] at e; cases e
      refine ⟨_, rfl, 1, rfl, S, _, -1, .ref s, rfl, rfl, SqL.of hS, atI_last _ _, s, r, h, t, g, num, _, rfl, St, fun G4 s' r' h' ns nr nh St4 k4 => ?_⟩
      have B4 := BG.no k4
      refine ⟨fun σ J => (∃ o3 o5 o6, σ = [some (.ref bx), some (.ref S), some (.ref E), o3, some (.ref s'), o5, o6]) ∧ Kp (fun b => bF bx bi b ∨ b = E) G J ∧ BoxAt J bx bi ∧ ∃ ev e, J E = some (.lst (xs ++ [ev])) ∧ EnAt J ev e ∧ e.bad t.mom = none ∧ SsAt (5 * (i + 1)) J (.ref s') (t.next e), ?_, ?_⟩
      · refine ⟨_, rfl, bx, bi, 4, rfl, B4, by decide, by decide, fun q G5 q0 q1 B5 k5 => ⟨rfl, _, rfl, ?_⟩⟩
        have K5 : Kp (bF bx bi) G G5 := (k4.sub fun _ z => False.elim z).trans k5 fun _ z => .inl z
        have St5 := St4.kt k5.t (box_nf B4)
        have hE5 : G5 E = some (.lst xs) := K5.t.lst hE hEb
        refine (fun els => ite2 (fun z => ⟨_, rfl, s', _, rfl, dgS St5.dc o_moment, _, _, rfl, rfl, ⟨by decide, by decide, by decide⟩, _, _, rfl, rfl, .inl ⟨by decide, by decide⟩, _, _, rfl, rfl, _, rfl, ite2 (fun hm => ?_) (fun _ => els)⟩) (fun _ => iteF els)) ?_
        rotate_left
        · -- a tick
          refine ⟨_, rfl, s', _, rfl, dgS St5.dc o_moment, _, _, rfl, rfl, _, rfl, sz 2 (by decide), fun p5 n5 => ⟨_, rfl, bx, bi, 2, rfl, B5.new n5, by decide, by decide, fun r6 G6 a6 b6 B6 k6 => ?_⟩⟩
          obtain ⟨m5, hm5, s5, e5⟩ := pickL (K := K) V.int [3, 900] B5 n5 k6 a6 b6
          have g5 : 3 ≤ m5 ∧ m5 ≤ 900 := by
            simp only [List.mem_cons, List.not_mem_nil, or_false] at hm5
            omega
          refine ⟨p5, _, r6, .int m5, rfl, rfl, s5, e5, bx, bi, m5, rfl, B6, by omega, big m5 (by omega) (by omega), fun x G7 x0 x1 B7 k7 => ⟨_, _, rfl, rfl, ?_⟩⟩
          have K57 : Kp (bF bx bi) G5 G7 := ((Kp.new n5).trans k6 fun _ z => .inl z).trans k7 fun _ z => .inl z
          have K7 : Kp (bF bx bi) G G7 := K5.trans K57 fun _ z => .inl z
          have St7 := St5.kt K57.t (box_nf B5)
          have hE7 : G7 E = some (.lst xs) := K7.t.lst hE hEb
          refine ⟨_, rfl, s', _, rfl, DPut.k (k := Sum.inr "moment") St7.dc (szL (by show 4 ≤ 16000; decide)), ?_⟩
          rw [q_moment]
          refine ⟨_, rfl, s', _, rfl, dgS upd_same o_number, _, _, rfl, rfl, _, rfl, s', _, rfl, DPut.k (k := Sum.inr "number") upd_same (szL (by show 4 ≤ 16000; decide)), ?_⟩
          rw [q_number, upd_upd]
          have hs7 : ∀ b, b = s' → G b = none := fun b z => by rw [z]; exact ns
          have k8 : Kp (fun b => b = s') G7 (upd G7 s' (.dK (ofs r' h' (t.mom + 1 + x) (num + 1)))) := Kp.updD St7.dc rfl
          have nEs : E ≠ s' := ne_of hE7 St7.dc (by intro z; cases z)
          have K8 : Kp (bF bx bi) G (upd G7 s' (.dK (ofs r' h' (t.mom + 1 + x) (num + 1)))) := K7.trans k8 fun b z => .inr (hs7 b z)
          have St8 : StAt (upd G7 s' (.dK (ofs r' h' (t.mom + 1 + x) (num + 1)))) s' r' h' ⟨t.rows, t.mom + 1 + x⟩ g (num + 1) (5 * i) := ⟨upd_same, St7.rows.kt k8.t St7.sr.symm, St7.hands.kt k8.t St7.sh.symm, St7.sr, St7.sh, St7.rh⟩
          have B8 : BoxAt (upd G7 s' (.dK (ofs r' h' (t.mom + 1 + x) (num + 1)))) bx bi := B7.kt k8.t fun a z => by rw [z]; exact box_nf B7 _ _ St7.dc
          have hE8 : upd G7 s' (.dK (ofs r' h' (t.mom + 1 + x) (num + 1))) E = some (.lst xs) := (upd_ne nEs).trans hE7
          generalize upd G7 s' (.dK (ofs r' h' (t.mom + 1 + x) (num + 1))) = G8 at K8 St8 B8 hE8 ⊢
          refine ⟨_, rfl, .inl ⟨rfl, _, SqL.of hE8⟩, _, rfl, s', _, rfl, dgS St8.dc o_moment, sz 2 (by decide), fun u nu => ?_⟩
          have hE9 := (upd_ne (o := .tup [.str "tick", .int (t.mom + 1 + x)]) (ne_of_none hE8 nu)).trans hE8
          have k9 : Kp (fun b => b = E) G8 (upd (upd G8 u (.tup [.str "tick", .int (t.mom + 1 + x)])) E (.lst (xs ++ [.ref u]))) := (Kp.new nu).andL hE9 rfl
          refine ⟨E, xs, .ref u, rfl, rfl, hE9, szL (by rw [pE.length, hl]; omega), ⟨_, _, _, rfl⟩, (K8.sub fun _ z => .inl z).trans k9 fun b z => .inl (.inr z), B8.kt k9.t fun a z => by rw [z]; exact hEb, .ref u, .tick (t.mom + 1 + x), upd_same, ⟨u, rfl, ?_⟩, ?_, s', r', h', g, num + 1, rfl, (St8.kt k9.t fun b kvs e z => by rw [z, hE8] at e; cases e).le (by omega), ok⟩
          · rw [upd_ne (ne_of_none hE8 nu).symm, upd_same]
          · have hm' : t.mom < 9 * 10 ^ 5 := by simpa using hm
            simp only [En.bad]
            rw [if_pos (inB_t.mpr ⟨by omega, by omega⟩)]
        · -- a deal
          refine ⟨_, rfl, _, rfl, bx, bi, s', r', h', t, g, num, _, rfl, B5, St5, ok, fun G6 dv ds B6 k6 hds hok l1 l4 => ?_⟩
          have K6 : Kp (bF bx bi) G G6 := K5.trans k6 fun _ z => .inl z
          have St6 := St5.kt k6.t (box_nf B5)
          refine ⟨_, rfl, bx, bi, 4, rfl, B6, by decide, by decide, fun hand G7 a7 b7 B7 k7 => ?_⟩
          have K7 : Kp (bF bx bi) G G7 := K6.trans k7 fun _ z => .inl z
          have St7 := St6.kt k7.t (box_nf B6)
          have hE7 : G7 E = some (.lst xs) := K7.t.lst hE hEb
          refine ⟨_, rfl, .inl ⟨rfl, _, SqL.of hE7⟩, _, rfl, _, rfl, sz 3 (by decide), fun u nu => ?_⟩
          have hE8 := (upd_ne (o := .tup [.str "deal", .int hand, dv]) (ne_of_none hE7 nu)).trans hE7
          refine ⟨E, xs, .ref u, rfl, rfl, hE8, szL (by rw [pE.length, hl]; omega), ?_⟩
          have k8 : Kp (fun b => b = E) G7 (upd (upd G7 u (.tup [.str "deal", .int hand, dv])) E (.lst (xs ++ [.ref u]))) := (Kp.new nu).andL hE8 rfl
          have nf8 : ∀ b kvs, G7 b = some (.dK kvs) → ¬ b = E := fun b kvs e z => by rw [z, hE7] at e; cases e
          have St8 := St7.kt k8.t nf8
          have hds8 := (hds.kt k7.t).kt k8.t
          have B8 := B7.kt k8.t fun a z => by rw [z]; exact hEb
          have K8 : Kp (fun b => bF bx bi b ∨ b = E) G _ := (K7.sub fun _ z => .inl z).trans k8 fun b z => .inl (.inr z)
          have hu8 : upd (upd G7 u (.tup [.str "deal", .int hand, dv])) E (.lst (xs ++ [.ref u])) u = some (.tup [.str "deal", .int hand, dv]) := by rw [upd_ne (ne_of_none hE7 nu).symm, upd_same]
          have hE8 : upd (upd G7 u (.tup [.str "deal", .int hand, dv])) E (.lst (xs ++ [.ref u])) E = some (.lst (xs ++ [.ref u])) := upd_same
          generalize upd (upd G7 u (.tup [.str "deal", .int hand, dv])) E (.lst (xs ++ [.ref u])) = G8 at St8 hds8 B8 K8 hu8 hE8 ⊢
          obtain ⟨kh, hdh, hkl, hf⟩ := St8.hands
          have q := hf hand
          refine ⟨_, rfl, _, rfl, _, rfl, s', _, rfl, dgS St8.dc o_hands, h', rfl, .inl ⟨kh, .inl hdh⟩, _, rfl, sz 1 (by decide), fun u2 nu2 => ?_⟩
          have ku : Kp No G8 (upd G8 u2 (.tup [.int 0])) := Kp.new nu2
          have hdh2 := ku.t.dK hdh fun z => z
          refine ⟨_, DGet.k (k := Sum.inl hand) hdh2, ?_⟩
          have first : ∃ t1 rest, (valV kh (Sum.inl hand)).getD (.ref u2) = .ref t1 ∧ upd G8 u2 (.tup [.int 0]) t1 = some (.tup (.int (g hand) :: rest)) := by
            cases e : valV kh (.inl hand : Key) with
            | none =>
              rw [e] at q
              exact ⟨u2, [], rfl, by rw [upd_same, show g hand = 0 from q]⟩
            | some v1 =>
              rw [e] at q
              obtain ⟨t1, num1, b1, rfl, h2⟩ := q
              exact ⟨t1, [.int num1, .bl b1], rfl, ku.t.tup h2⟩
          obtain ⟨t1, rest, e1, ht1⟩ := first
          refine ⟨t1, _, 0, .int (g hand), e1, rfl, SqT.of ht1, atI_nat (j := 0) rfl, _, _, rfl, rfl, _, rfl, ?_⟩
          refine ⟨s', r', h', hand, g hand + 1, dv, t, g, num, _, ds, rfl, St8.kt ku.t (fun _ _ _ z => z), hds8.kt ku.t, by omega, by omega, fun G9 r'' hr'' k9 St9 v' => ?_⟩
          have nf9 : ∀ {a}, (a = s' ∨ a = h') → ¬ bF bx bi a ∧ a ≠ E := fun {a} z => by
            rcases z with z | z
            · rw [z]
              exact ⟨box_nf B8 _ _ St8.dc, fun y => by rw [y] at St8; rw [St8.dc] at hE8; cases hE8⟩
            · rw [z]
              exact ⟨box_nf B8 _ _ hdh, fun y => by rw [y] at hdh; rw [hdh] at hE8; cases hE8⟩
          have k89 : Kp (fun b => b = s' ∨ b = h') G8 G9 := (ku.sub fun _ z => False.elim z).trans k9 fun _ z => .inl z
          refine ⟨⟨_, _, _, rfl⟩, K8.trans k89 fun b z => .inr (by rcases z with z | z <;> rw [z] <;> assumption), B8.kt k89.t fun a z => (nf9 z).1, .ref u, .deal hand ds, k89.t.lst hE8 fun z => (nf9 z).2 rfl, ⟨u, dv, rfl, k89.t.tup hu8, hds8.kt k89.t⟩, ?_, s', r'', h', _, _, rfl, St9.le (by omega), ?_⟩
          · simp only [En.bad, inB_t.mpr ⟨a7, (by omega : hand ≤ 3)⟩, dealBad_ok l1 l4 hok, if_true]
          · simp only [Tb.next]
            cases e : steps t.mom t.rows ds with
            | none => exact ok
            | some g2 => exact rows_steps ok hok e
      · -- the end of a turn
        rintro σ J ⟨⟨o3, o5, o6, rfl⟩, kJ, BJ, ev, e, hEJ, hev, hbad, hss⟩
        have nfS : ¬ (bF bx bi S ∨ S = E) := fun z => z.elim hSb fun y => nES y.symm
        have hSJ : J S = some (.lst (y0 ++ [.ref s])) := kJ.t.lst hS nfS
        have kL : Kp (fun b => b = S) J (upd J S (.lst (y0 ++ [.ref s] ++ [.ref s']))) := Kp.updL hSJ rfl
        have nfJ : ∀ b kvs, J b = some (.dK kvs) → ¬ b = S := fun b kvs e z => by rw [z, hSJ] at e; cases e
        have nfGJ : ∀ b kvs, G b = some (.dK kvs) → ¬ (bF bx bi b ∨ b = E) := fun b kvs e z => nfG b kvs e (z.imp id .inl)
        have hss2 := hss.kt kL.t nfJ
        refine ⟨_, rfl, .inl ⟨rfl, _, SqL.of hSJ⟩, _, rfl, S, _, .ref s', rfl, rfl, hSJ, szL (by rw [pS.length, tbs_length, hl]; omega), ⟨_, _, _, _, rfl⟩, (kp.trans kJ fun b z => .inl (z.imp id .inl)).trans kL fun b z => .inl (.inr (.inr z)), BJ.kt kL.t (fun a z => by rw [z]; exact hSb), xs ++ [ev], y0 ++ [.ref s], .ref s', es ++ [e], ?_, ?_, upd_same, ?_, ?_, by simp [hl], ?_⟩
        · exact (upd_ne nES).trans hEJ
        · exact (pE.mono fun _ _ z => (z.kt kJ.t).kt kL.t).snoc (hev.kt kL.t)
        · rw [tbs_snoc, hT]
          exact (pS.mono fun _ _ z => ((z.kt kJ.t nfGJ).kt kL.t nfJ).le (by omega)).snoc hss2
        · rw [lastT_snoc, hT]
          exact hss2
        · rw [badE_app hbE, hT]
          simp only [badE, hbad]
    · rintro σ G ⟨⟨o3, o4, o5, o6, rfl⟩, kp, BG, xs, y0, v, es, hE, pE, hS, pS, _, hl, hbE⟩
      refine ⟨_, rfl, _, rfl, sz 2 (by decide), fun p np => ?_⟩
      have kn : Kp No G (upd G p (.tup [.ref E, .ref S])) := Kp.new np
      refine k _ p E S xs _ es (BG.no kn) (fun b o e n => (kp.andN np) b o e fun m z => ?_) nEH nSH nES upd_same (kn.t.lst hE fun z => z) (pE.mono fun _ _ z => z.kt kn.t) (kn.t.lst hS fun z => z) (pS.mono fun _ _ z => (z.kt kn.t fun _ _ _ z => z).le (by omega)) (by omega) hbE
      rcases z with z | z | z
      · exact n m z
      · rw [z, nEH] at e; cases e
      · rw [z, nSH] at e; cases e
end
end S16

set_option Elab.async false
set_option linter.all false
set_option maxRecDepth 100000
set_option maxHeartbeats 4000000
namespace S16
open PySem PySem.Spec PyProof.Rows L2 K5 SupX
theorem at_int {ns : List Int} {j : Int} (h0 : 0 ≤ j) (h1 : j < ns.length) : ∃ x, x ∈ ns ∧ atI (ns.map V.int) j = some (.int x) := pickM V.int ns h0 h1
section
variable {P : Program} {w : World} {K : PySem.W.Frag} {mg : Str → Option Value} {base : Heap} {A : Ad}
abbrev Nscreadings : List Str := ["_law_box", "_law_stores", "_law_found", "_law_seen_here", "_law_often", "_law_turn", "_law_hand", "_law_number", "_law_key", "_law_worth"]
theorem screadings : FnScope Nscreadings ["_law_box", "_law_stores"] (defScope s_readings) := ⟨rfl, rfl, rfl, by decide +kernel, rfl, by decide +kernel, by decide +kernel⟩
def spReadings : Sp := fun vs H Q _ => ∃ (bx bi S : Addr) (m : Nat) (ys : List V) (ts : List Tb), vs = [.ref bx, .ref S] ∧ BoxAt H bx bi ∧ ¬ bF bx bi S ∧ H S = some (.lst ys) ∧ Paired (SsAt m H) ys ts ∧ 1 ≤ ys.length ∧ ys.length ≤ 100 ∧
  ∀ G a vs rs, BoxAt G bx bi → Kp (bF bx bi) H G → H a = none → G a = some (.lst vs) → Paired (RdAt G) vs rs → rs.length ≤ 31 → badR rs = none → Q (.ref a) G
theorem ok_readings (T : Txt K mg A) : ∃ fd, FnOk P w K mg base CX0 2 (A.d 56) fd ["_law_box", "_law_stores"] spReadings ∧ Binds K fd ["_law_box", "_law_stores"] [] := by
  obtain ⟨fd, F⟩ := T.readings.fn
  obtain ⟨fdT, Gtake, btake⟩ := ok_take (P := P) (w := w) (base := base) T
  obtain ⟨fdS, Gseen, bseen⟩ := ok_seen (P := P) (w := w) (base := base) T
  refine ⟨fd, F.ok screadings (fun vs H Q E h => ?_) (fun cdv Ar outer s0 H vs Q E hr h => ?_), F.binds fun _ _ _ _ _ _ us hl => match us, hl with | [_, _], _ => rfl⟩
  · obtain ⟨bx, bi, S, m, ys, ts, rfl, _⟩ := h
    rfl
  · obtain ⟨bx, bi, S, m, ys, ts, rfl, B, hSb, hS, pS, hy1, hy2, k⟩ := h
    have hu := hu_of hr
    refine ⟨_, (pss_cons (ps_set (i := 2) screadings.nd rfl (Or.inl rfl) (pe_lst pa_nil))
      (pss_cons (ps_set (i := 3) screadings.nd rfl (Or.inl rfl) (pe_lst (pa_cons pe_int (pa_cons pe_int (pa_cons pe_int (pa_cons pe_int pa_nil))))))
      (pss_cons (ps_set (i := 4) screadings.nd rfl (Or.inl rfl) (pe_ix ix_list (pe_lst (pa_cons pe_int (pa_cons pe_int (pa_cons (pe_op op_pow pe_int pe_int) pa_nil)))) (pe_call Gtake (hr.mono (by first | decide | omega)) rfl T.take.at_ T.take.kp btake .nil pass0 (pa_cons (pv 0) (pa_cons pe_int pa_nil))) (fun _ _ => rfl)))
      (pss_cons (ps_for PassesOwn.never rfl (pi_range1 (by rfl) T.range (pa_cons (pe_call Gtake (hr.mono (by first | decide | omega)) rfl T.take.at_ T.take.kp btake .nil pass0 (pa_cons (pv 0) (pa_cons pe_int pa_nil))) pa_nil)) (pg_name (i := 5) screadings.nd rfl (Or.inl rfl))
        (pss_cons (ps_set (i := 6) screadings.nd rfl (Or.inl rfl) (pe_call Gtake (hr.mono (by first | decide | omega)) rfl T.take.at_ T.take.kp btake .nil pass0 (pa_cons (pv 0) (pa_cons pe_int pa_nil))))
        (pss_cons (ps_set (i := 7) screadings.nd rfl (Or.inl rfl) (pe_op op_add (pe_ix ix_list (pv 3) (pv 6) (fun _ _ => rfl)) (pe_call Gtake (hr.mono (by first | decide | omega)) rfl T.take.at_ T.take.kp btake .nil pass0 (pa_cons (pv 0) (pa_cons (pe_callB (call_min2 rfl) (by rfl) T.min (by decide +kernel) (pa_cons pe_int (pa_cons (pe_op op_sub (pe_callB call_len_seq (by rfl) T.len PySem.boot_len (pa_cons (pv 1) pa_nil)) (pe_ix ix_list (pv 3) (pv 6) (fun _ _ => rfl))) pa_nil))) pa_nil)))))
        (pss_cons (ps_set (i := 8) screadings.nd rfl (Or.inl rfl) (pe_call Gtake (hr.mono (by first | decide | omega)) rfl T.take.at_ T.take.kp btake .nil pass0 (pa_cons (pv 0) (pa_cons (pe_ix ix_list (pe_lst (pa_cons pe_int (pa_cons pe_int pa_nil))) (pe_call Gtake (hr.mono (by first | decide | omega)) rfl T.take.at_ T.take.kp btake .nil pass0 (pa_cons (pv 0) (pa_cons pe_int pa_nil))) (fun _ _ => rfl)) pa_nil))))
        (pss_cons (ps_set (i := 9) screadings.nd rfl (Or.inl rfl) (pe_call Gseen (hr.mono (by first | decide | omega)) rfl T.seen.at_ T.seen.kp bseen .nil pass0 (pa_cons (pe_ix ix_list (pv 1) (pv 7) (fun _ _ => rfl)) (pa_cons (pv 8) pa_nil))))
        (C8.pss_cut (ps_if (pt_cmpR op_eq (pe_call Gtake (hr.mono (by first | decide | omega)) rfl T.take.at_ T.take.kp btake .nil pass0 (pa_cons (pv 0) (pa_cons (pv 4) pa_nil))) pe_int (nomark _))
          (pss_cons (ps_set (i := 7) screadings.nd rfl (Or.inl rfl) (pe_ix ix_list (pe_lst (pa_cons (pe_op op_sub (pe_op op_sub (pv 7) pe_int) (pe_call Gtake (hr.mono (by first | decide | omega)) rfl T.take.at_ T.take.kp btake .nil pass0 (pa_cons (pv 0) (pa_cons pe_int pa_nil)))) (pa_cons (pe_op op_add (pe_callB call_len_seq (by rfl) T.len PySem.boot_len (pa_cons (pv 1) pa_nil)) (pe_call Gtake (hr.mono (by first | decide | omega)) rfl T.take.at_ T.take.kp btake .nil pass0 (pa_cons (pv 0) (pa_cons pe_int pa_nil)))) (pa_cons (pv 7) pa_nil)))) (pe_call Gtake (hr.mono (by first | decide | omega)) rfl T.take.at_ T.take.kp btake .nil pass0 (pa_cons (pv 0) (pa_cons pe_int pa_nil))) (fun _ _ => rfl)))
          (pss_cons (ps_set (i := 9) screadings.nd rfl (Or.inl rfl) (pe_ix ix_list (pe_lst (pa_cons (pv 9) (pa_cons pe_non (pa_cons (pe_call Gtake (hr.mono (by first | decide | omega)) rfl T.take.at_ T.take.kp btake .nil pass0 (pa_cons (pv 0) (pa_cons pe_int pa_nil))) pa_nil)))) (pe_call Gtake (hr.mono (by first | decide | omega)) rfl T.take.at_ T.take.kp btake .nil pass0 (pa_cons (pv 0) (pa_cons pe_int pa_nil))) (fun _ _ => rfl)))
          (pss_one (ps_if (PW.pt (pw_and (pt_chain op_le op_lt pe_int (pv 7) (pe_callB call_len_seq (by rfl) T.len PySem.boot_len (pa_cons (pv 1) pa_nil))) (pw_and1 (pt_cmpR op_eq (pe_call Gtake (hr.mono (by first | decide | omega)) rfl T.take.at_ T.take.kp btake .nil pass0 (pa_cons (pv 0) (pa_cons pe_int pa_nil))) pe_int (nomark _)))))
            (pss_one (ps_set (i := 9) screadings.nd rfl (Or.inl rfl) (pe_call Gseen (hr.mono (by first | decide | omega)) rfl T.seen.at_ T.seen.kp bseen .nil pass0 (pa_cons (pe_ix ix_list (pv 1) (pv 7) (fun _ _ => rfl)) (pa_cons (pv 8) pa_nil)))))
            pss_nil))))
          (pss_one (ps_if (pt_cmpR op_eq (pe_call Gtake (hr.mono (by first | decide | omega)) rfl T.take.at_ T.take.kp btake .nil pass0 (pa_cons (pv 0) (pa_cons pe_int pa_nil))) pe_int (nomark _))
            (pss_one (ps_asg (pv 7) (pg_sub (pv 3) (pv 6) set_list)))
            pss_nil)))
        (pss_one (ps_expr (pe_bm PySem.F.plainAttrs_list PySem.F.slot_list_append PySem.F.type_list_append mt_append (pv 2) (pa_cons (pe_tup (pa_cons (pv 6) (pa_cons (pv 7) (pa_cons (pv 8) (pa_cons (pv 9) pa_nil))))) pa_nil))))))))))
      (pss_one (ps_ret (pv 2))))))), ?_⟩
    have big : ∀ m : Int, 0 < m → m ≤ 1000000 → m.natAbs < 2 ^ 90 := fun m h1 h2 => Nat.lt_of_le_of_lt (by omega : m.natAbs ≤ 1000000) (by decide)
    refine ⟨Nat.zero_le _, fun D nD => ⟨sz 4 (by decide), fun L nL => ⟨_, _, rfl, rfl, ⟨by decide, by decide, by decide⟩, sz 3 (by decide), fun p1 n1 => ?_⟩⟩⟩
    obtain ⟨nLD, nLH⟩ := upd_none nL
    have hDb : ¬ bF bx bi D := new_nb B nD
    have hLb : ¬ bF bx bi L := new_nb B nLH
    have k1 : Kp No H (upd (upd H D (.lst [])) L (.lst [.int 0, .int 0, .int 0, .int 0])) := (Kp.new nD).andN nL
    have B1 := B.no k1
    have hD1 : upd (upd H D (.lst [])) L (.lst [.int 0, .int 0, .int 0, .int 0]) D = some (.lst []) := by rw [upd_ne nLD.symm, upd_same]
    have hL1 : upd (upd H D (.lst [])) L (.lst [.int 0, .int 0, .int 0, .int 0]) L = some (.lst (([0, 0, 0, 0] : List Int).map V.int)) := by rw [upd_same]; rfl
    generalize upd (upd H D (.lst [])) L (.lst [.int 0, .int 0, .int 0, .int 0]) = G1 at k1 B1 hD1 hL1 n1 ⊢
    refine ⟨_, rfl, bx, bi, 3, rfl, B1.new n1, by decide, by decide, fun r1 G2 a1 b1 B2 k2 => ?_⟩
    obtain ⟨often, hof, s1, e1⟩ := pickL (K := K) V.int [3, 12, 10 ^ (6 : Int).toNat] B1 n1 k2 a1 b1
    have g1 : 3 ≤ often ∧ often ≤ 1000000 := by
      have e6 : (10 : Int) ^ (6 : Int).toNat = 1000000 := by decide
      rw [e6] at hof
      simp only [List.mem_cons, List.not_mem_nil, or_false] at hof
      omega
    refine ⟨p1, _, r1, .int often, rfl, rfl, s1, e1, _, rfl, bx, bi, 31, rfl, B2, by decide, by decide, fun c G3 c0 c1 B3 k3 => ⟨c, rfl, by omega, by omega, ?_⟩⟩
    have K13 : Kp (bF bx bi) G1 G3 := ((Kp.new n1).trans k2 fun _ z => .inl z).trans k3 fun _ z => .inl z
    have neSD : S ≠ D := ne_of_none hS nD
    have neSL : S ≠ L := ne_of_none hS nLH
    refine for_range (lo := 0) (n := c.toNat) (fun i σ G => (∃ o5 o6 o7 o8 o9, σ = [some (.ref bx), some (.ref S), some (.ref D), some (.ref L), some (.int often), o5, o6, o7, o8, o9]) ∧ Kp (fun b => bF bx bi b ∨ b = D ∨ b = L) H G ∧ BoxAt G bx bi ∧ ∃ (ns : List Int) (vs : List V) (rs : List Rd), G L = some (.lst (ns.map V.int)) ∧ ns.length = 4 ∧ (∀ x : Int, x ∈ ns → 0 ≤ x ∧ x < ys.length) ∧ G D = some (.lst vs) ∧ Paired (RdAt G) vs rs ∧ rs.length = i ∧ badR rs = none)
      ⟨⟨_, _, _, _, _, rfl⟩, (k1.sub fun _ z => False.elim z).trans K13 fun _ z => .inl (.inl z), B3, [0, 0, 0, 0], [], [], K13.t.lst hL1 hLb, rfl, ?_, K13.t.lst hD1 hDb, .nil, rfl, rfl⟩ ?_ ?_
    · intro x hx
      simp only [List.mem_cons, List.not_mem_nil, or_false] at hx
      omega
    · rintro i σ G hi ⟨⟨o5, o6, o7, o8, o9, rfl⟩, kp, BG, ns, vs, rs, hL, hl4, hns, hD, pD, hrl, hbR⟩
      have nfS : ¬ (bF bx bi S ∨ S = D ∨ S = L) := fun z => z.elim hSb fun y => y.elim neSD neSL
      have nfH : ∀ b kvs, H b = some (.dK kvs) → ¬ (bF bx bi b ∨ b = D ∨ b = L) := fun b kvs e z => by
        rcases z with z | z | z
        · exact box_nf B b kvs e z
        · rw [z, nD] at e; cases e
        · rw [z, nLH] at e; cases e
      -- the hand
      refine ⟨_, rfl, bx, bi, 4, rfl, BG, by decide, by decide, fun hd G4 a4 b4 B4 k4 => ?_⟩
      obtain ⟨x0, hx0, ex0⟩ := at_int (ns := ns) (j := hd) a4 (by omega)
      have hx := hns x0 hx0
      have hL4 := k4.t.lst hL hLb
      have kS4 : Kp (fun b => bF bx bi b ∨ b = D ∨ b = L) H G4 := kp.trans k4 fun _ z => .inl (.inl z)
      have hS4 := kS4.t.lst hS nfS
      -- its number
      refine ⟨_, rfl, _, rfl, L, _, hd, .int x0, rfl, rfl, SqL.of hL4, ex0, _, rfl, _, rfl, S, ys, rfl, .inl (SqL.of hS4), _, rfl, _, rfl, L, _, hd, .int x0, rfl, rfl, SqL.of hL4, ex0, _, _, rfl, rfl, _, _, rfl, ?_⟩
      obtain ⟨mn, hmn, hmn2, hmn3⟩ : ∃ mn : Int, (if (ys.length : Int) - x0 < 4 then (ys.length : Int) - x0 else 4) = mn ∧ 0 < mn ∧ mn ≤ 4 ∧ mn ≤ ys.length - x0 := ⟨_, rfl, by split <;> omega, by split <;> omega, by split <;> omega⟩
      rw [hmn]
      refine ⟨bx, bi, mn, rfl, B4, hmn2, big mn hmn2 (by omega), fun y G5 a5 b5 B5 k5 => ⟨_, _, rfl, rfl, ?_⟩⟩
      have hnum : 0 ≤ x0 + y ∧ x0 + y < ys.length := by omega
      obtain ⟨num, hnm⟩ : ∃ n : Int, n = x0 + y := ⟨_, rfl⟩
      have hnv : (fun i j : Int => V.int (i + j)) x0 y = .int num := by rw [hnm]
      rw [hnv]
      rw [← hnm] at hnum
      -- its key
      refine ⟨_, rfl, sz 2 (by decide), fun p6 n6 => ⟨_, rfl, bx, bi, 2, rfl, B5.new n6, by decide, by decide, fun r6 G6 a6 b6 B6 k6 => ?_⟩⟩
      obtain ⟨m6, hm6, s6, e6⟩ := pickL (K := K) V.int [6, 32] B5 n6 k6 a6 b6
      have g6 : 6 ≤ m6 ∧ m6 ≤ 32 := by
        simp only [List.mem_cons, List.not_mem_nil, or_false] at hm6
        omega
      refine ⟨p6, _, r6, .int m6, rfl, rfl, s6, e6, bx, bi, m6, rfl, B6, by omega, big m6 (by omega) (by omega), fun key G7 a7 b7 B7 k7 => ?_⟩
      have K47 : Kp (bF bx bi) G4 G7 := ((k5.andN n6).trans k6 fun _ z => .inl z).trans k7 fun _ z => .inl z
      have K7 : Kp (bF bx bi) G G7 := k4.trans K47 fun _ z => .inl z
      -- what is shown, at any later heap
      have look : ∀ {J : Hp} {j : Int}, Kp (fun b => bF bx bi b ∨ b = D ∨ b = L) H J → 0 ≤ j → j < ys.length → ∃ v t, atI ys j = some v ∧ SsAt m J v t := fun {J j} kJ h0 h1 => by
        have hlt : j.toNat < ys.length := by omega
        obtain ⟨t, _, z⟩ := paired_at pS (List.getElem?_eq_getElem hlt)
        refine ⟨ys[j.toNat], t, ?_, z.kt kJ.t nfH⟩
        unfold atI
        rw [ixN_in h0 h1]
        exact List.getElem?_eq_getElem hlt
      have kS7 : Kp (fun b => bF bx bi b ∨ b = D ∨ b = L) H G7 := kp.trans K7 fun _ z => .inl (.inl z)
      obtain ⟨v7, t7, ev7, s, r, h, g, nm, rfl, St7, _⟩ := look kS7 hnum.1 hnum.2
      refine ⟨_, rfl, _, rfl, S, ys, num, .ref s, rfl, rfl, SqL.of (kS7.t.lst hS nfS), ev7, _, rfl, s, r, h, key, t7, g, nm, _, rfl, St7, fun G8 k8 => ?_⟩
      generalize seen t7.mom t7.rows key = x
      have K8 : Kp (bF bx bi) G G8 := K7.trans k8 fun _ z => False.elim z
      have B8 := B7.no k8
      refine ⟨fun σ J => ∃ (num' : Int) (x' : Option Int) (ns' : List Int), (∃ o5, σ = [some (.ref bx), some (.ref S), some (.ref D), some (.ref L), some (.int often), o5, some (.int hd), some (.int num'), some (.int key), some (oV x')]) ∧ Kp (fun b => bF bx bi b ∨ b = L) G J ∧ BoxAt J bx bi ∧ J L = some (.lst (ns'.map V.int)) ∧ ns'.length = 4 ∧ ∀ x : Int, x ∈ ns' → 0 ≤ x ∧ x < ys.length, ?_, ?_⟩
      · refine ⟨_, rfl, _, rfl, bx, bi, often, rfl, B8, by omega, big often (by omega) (by omega), fun q G9 a9 b9 B9 k9 => ⟨rfl, _, rfl, ite2 (fun _ => ?_) (fun _ => ?_)⟩⟩
        · have K9 : Kp (bF bx bi) G G9 := K8.trans k9 fun _ z => .inl z
          have kS9 : Kp (fun b => bF bx bi b ∨ b = D ∨ b = L) H G9 := kp.trans K9 fun _ z => .inl (.inl z)
          refine ⟨_, rfl, _, _, rfl, rfl, _, rfl, bx, bi, 3, rfl, B9, by decide, by decide, fun y1 Ga aa ba Ba ka => ⟨_, _, rfl, rfl, ?_⟩⟩
          have kSa : Kp (fun b => bF bx bi b ∨ b = D ∨ b = L) H Ga := kS9.trans ka fun _ z => .inl (.inl z)
          refine ⟨_, rfl, S, ys, rfl, .inl (SqL.of (kSa.t.lst hS nfS)), _, rfl, bx, bi, 3, rfl, Ba, by decide, by decide, fun y2 Gb ab bb Bb kb => ⟨_, _, rfl, rfl, _, rfl, sz 3 (by decide), fun pc nc => ?_⟩⟩
          refine ⟨_, rfl, bx, bi, 3, rfl, Bb.new nc, by decide, by decide, fun rc Gc ac bc Bc kc => ?_⟩
          obtain ⟨num', hnum', sc, ec⟩ := pickL (K := K) V.int [num - 1 - y1, (ys.length : Int) + y2, num] Bb nc kc ac bc
          refine ⟨pc, _, rc, .int num', rfl, rfl, sc, ec, ?_⟩
          have Kc : Kp (bF bx bi) G Gc := (((K9.trans ka fun _ z => .inl z).trans kb fun _ z => .inl z).andN nc).trans kc fun _ z => .inl z
          refine ⟨_, rfl, _, rfl, bx, bi, 1000, rfl, Bc, by decide, by decide, fun y3 Gd ad bd Bd kd => ⟨sz 3 (by decide), fun pe ne => ?_⟩⟩
          refine ⟨_, rfl, bx, bi, 3, rfl, Bd.new ne, by decide, by decide, fun re Ge ae be Be ke => ?_⟩
          obtain ⟨x', hx', se, ee⟩ := pickL (K := K) oV [x, none, some y3] Bd ne ke ae be
          refine ⟨pe, _, re, oV x', rfl, rfl, se, ee, ?_⟩
          have Ke : Kp (bF bx bi) G Ge := ((Kc.trans kd fun _ z => .inl z).andN ne).trans ke fun _ z => .inl z
          have post : ∀ {J : Hp} (x'' : Option Int), Kp (bF bx bi) G J → BoxAt J bx bi → ∃ (nu : Int) (xu : Option Int) (ns' : List Int), (∃ o5, [some (.ref bx), some (.ref S), some (.ref D), some (.ref L), some (.int often), some (V.int (0 + (i : Int))), some (.int hd), some (.int num'), some (.int key), some (oV x'')] = [some (.ref bx), some (.ref S), some (.ref D), some (.ref L), some (.int often), o5, some (.int hd), some (.int nu), some (.int key), some (oV xu)]) ∧ Kp (fun b => bF bx bi b ∨ b = L) G J ∧ BoxAt J bx bi ∧ J L = some (.lst (ns'.map V.int)) ∧ ns'.length = 4 ∧ ∀ x : Int, x ∈ ns' → 0 ≤ x ∧ x < ys.length := fun x'' kJ BJ => ⟨num', x'', ns, ⟨_, rfl⟩, kJ.sub fun _ z => .inl z, BJ, kJ.t.lst hL hLb, hl4, hns⟩
          have kSe : Kp (fun b => bF bx bi b ∨ b = D ∨ b = L) H Ge := kp.trans Ke fun _ z => .inl (.inl z)
          have hSe := kSe.t.lst hS nfS
          refine ⟨_, rfl, _, _, rfl, rfl, _, rfl, ite2 (fun z0 => ?_) (fun z0 => ?_)⟩
          · refine ⟨_, rfl, S, ys, rfl, .inl (SqL.of hSe), _, _, rfl, rfl, _, rfl, ite2 (fun z1 => ?_) (fun z1 => ?_)⟩
            · refine ⟨_, rfl, bx, bi, 2, rfl, Be, by decide, by decide, fun q2 Gf af bf Bf kf => ⟨rfl, _, rfl, ite2 (fun _ => ?_) (fun _ => ?_)⟩⟩
              · have kSf : Kp (fun b => bF bx bi b ∨ b = D ∨ b = L) H Gf := kSe.trans kf fun _ z => .inl (.inl z)
                obtain ⟨vf, tf, evf, s', r', h', g', nm', rfl, Stf, _⟩ := look kSf (by simpa using z0) (by simpa using z1)
                refine ⟨_, rfl, _, rfl, S, ys, num', .ref s', rfl, rfl, SqL.of (kSf.t.lst hS nfS), evf, _, rfl, s', r', h', key, tf, g', nm', _, rfl, Stf, fun Gg kg => ?_⟩
                exact post (seen tf.mom tf.rows key) ((Ke.trans kf fun _ z => .inl z).trans kg fun _ z => False.elim z) (Bf.no kg)
              · exact post x' (Ke.trans kf fun _ z => .inl z) Bf
            · exact iteF (post x' Ke Be)
          · exact ⟨_, rfl, iteF (post x' Ke Be)⟩
        · refine ⟨_, rfl, bx, bi, 2, rfl, B9, by decide, by decide, fun q2 Ga aa ba Ba ka => ⟨rfl, _, rfl, ite2 (fun _ => ?_) (fun _ => ?_)⟩⟩
          · have Ka : Kp (bF bx bi) G Ga := (K8.trans k9 fun _ z => .inl z).trans ka fun _ z => .inl z
            have hLa : Ga L = some (.lst (ns.map V.int)) := Ka.t.lst hL hLb
            refine ⟨_, rfl, _, rfl, _, rfl, L, _, hd, hd.toNat, rfl, rfl, hLa, ixN_in a4 (by rw [List.length_map]; omega), num, x, ns.set hd.toNat num, ⟨_, rfl⟩, (Ka.sub fun _ z => .inl z).andL hLa (.inr rfl), Ba.kt (Kp.updL (F := fun b => b = L) hLa rfl).t (fun a z => by rw [z]; exact hLb), ?_, by simp [hl4], fun y hy => ?_⟩
            · rw [upd_same, List.map_set]
            · rcases List.mem_or_eq_of_mem_set hy with z | z
              · exact hns y z
              · rw [z]; exact hnum
          · have Ka : Kp (bF bx bi) G Ga := (K8.trans k9 fun _ z => .inl z).trans ka fun _ z => .inl z
            exact ⟨num, x, ns, ⟨_, rfl⟩, Ka.sub fun _ z => .inl z, Ba, Ka.t.lst hL hLb, hl4, hns⟩
      · rintro σ J ⟨num', x', ns', ⟨o5, rfl⟩, kJ, BJ, hLJ, hl4', hns'⟩
        have nDL : ¬ (bF bx bi D ∨ D = L) := fun z => z.elim hDb fun y => nLD y.symm
        have hDJ : J D = some (.lst vs) := kJ.t.lst hD nDL
        refine ⟨_, rfl, .inl ⟨rfl, _, SqL.of hDJ⟩, _, rfl, _, rfl, _, rfl, _, rfl, sz 4 (by decide), fun u nu => ?_⟩
        have hDu := (upd_ne (o := .tup [.int hd, .int num', .int key, oV x']) (ne_of_none hDJ nu)).trans hDJ
        have kD : Kp (fun b => b = D) J (upd (upd J u (.tup [.int hd, .int num', .int key, oV x'])) D (.lst (vs ++ [.ref u]))) := (Kp.new nu).andL hDu rfl
        refine ⟨D, vs, .ref u, rfl, rfl, hDu, szL (by rw [pD.length, hrl]; omega), ⟨_, _, _, _, _, rfl⟩, (kp.trans kJ fun b z => .inl (z.imp id .inr)).trans kD fun b z => .inl (.inr (.inl z)), BJ.kt kD.t (fun a z => by rw [z]; exact hDb), ns', vs ++ [.ref u], rs ++ [⟨hd, num', key, x'⟩], kD.t.lst hLJ nLD, hl4', hns', upd_same, ?_, by simp [hrl], ?_⟩
        · refine (pD.mono fun _ _ z => (z.kt kJ.t).kt kD.t).snoc ⟨u, rfl, ?_⟩
          rw [upd_ne (ne_of_none hDJ nu).symm, upd_same]
          rfl
        · rw [badR_app hbR]
          simp only [badR, Rd.bad, inB_t.mpr ⟨a4, (by omega : hd ≤ 3)⟩, inB_t.mpr ⟨a7, (by omega : key ≤ 31)⟩, if_true]
    · rintro σ G ⟨⟨o5, o6, o7, o8, o9, rfl⟩, kp, BG, ns, vs, rs, hL, hl4, hns, hD, pD, hrl, hbR⟩
      refine ⟨_, rfl, k G D vs rs BG (fun b o e n => kp b o e fun m z => ?_) nD hD pD (by omega) hbR⟩
      rcases z with z | z | z
      · exact n m z
      · rw [z, nD] at e; cases e
      · rw [z, nLH] at e; cases e
end
end S16

set_option Elab.async false
set_option linter.all false
set_option maxRecDepth 100000
set_option maxHeartbeats 4000000
namespace S16
open PySem PySem.Spec PyProof.Rows L2 K5 SupX
theorem cut_take (xs : List V) (i : Nat) (h : i ≤ xs.length) : cutV xs none (some (i : Int)) = xs.take i := by
  unfold cutV
  rw [HT.sIx_none, HT.sIx_nat, List.drop_zero, Nat.sub_zero, Nat.min_eq_left h]
theorem cut_drop (xs : List V) (i : Nat) (h : i ≤ xs.length) : cutV xs (some (i : Int)) none = xs.drop i := by
  unfold cutV
  rw [HT.sIx_none, HT.sIx_nat, Nat.min_eq_left h, List.take_of_length_le (by rw [List.length_drop]; omega)]
/-- a hand's numbers -/
def nums (h : Int) (rs : List Rd) : List Int := (rs.filter fun r => decide (r.hand = h)).map Rd.num
theorem nums_snoc (h : Int) (rs : List Rd) (r : Rd) : nums h (rs ++ [r]) = if r.hand = h then nums h rs ++ [r.num] else nums h rs := by
  unfold nums
  rw [List.filter_append]
  by_cases e : r.hand = h
  · rw [if_pos e, List.filter_cons_of_pos (by simpa using e), List.filter_nil, List.map_append]
    rfl
  · rw [if_neg e, List.filter_cons_of_neg (by simpa using e), List.filter_nil, List.append_nil]
/-- the law's last numbers are the greatest ones ahead -/
structure Mx (ls : Ls) (rs : List Rd) : Prop where
  le : ∀ h x, x ∈ nums h rs → x ≤ ls h
  pos : ∀ h, 0 ≤ ls h
  of : ∀ h, ls h ∈ (0 : Int) :: nums h rs
theorem Mx.nil : Mx (fun _ => 0) [] := ⟨(fun _ _ h => by cases h), fun _ => Int.le_refl _, fun _ => List.mem_cons_self⟩
theorem Mx.snoc {ls : Ls} {rs : List Rd} {r : Rd} (m : Mx ls rs) (h : ls r.hand ≤ r.num) : Mx (ls.set r.hand r.num) (rs ++ [r]) := by
  refine ⟨fun j x hx => ?_, fun j => ?_, fun j => ?_⟩
  · rw [nums_snoc] at hx
    unfold Ls.set
    by_cases e : j = r.hand
    · rw [if_pos e.symm] at hx
      rw [if_pos e]
      rcases List.mem_append.mp hx with z | z
      · exact Int.le_trans (m.le j x z) (by rw [e]; exact h)
      · rw [List.mem_singleton.mp z]; exact Int.le_refl _
    · rw [if_neg fun z => e z.symm] at hx
      rw [if_neg e]
      exact m.le j x hx
  · unfold Ls.set
    by_cases e : j = r.hand
    · rw [if_pos e]; exact Int.le_trans (m.pos _) h
    · rw [if_neg e]; exact m.pos j
  · rw [nums_snoc]
    unfold Ls.set
    by_cases e : j = r.hand
    · rw [if_pos e, if_pos e.symm]
      exact List.mem_cons_of_mem _ (List.mem_append_right _ List.mem_cons_self)
    · rw [if_neg e, if_neg fun z => e z.symm]
      exact m.of j
section
variable {P : Program} {w : World} {K : PySem.W.Frag} {mg : Str → Option Value} {base : Heap} {A : Ad}
abbrev Nscdue : List Str := ["_law_stores", "_law_readings_here", "_law_place", "_law_hand", "_law_number", "_law_key", "_law_worth", "_law_ahead", "_law_reading"]
theorem scdue : FnScope Nscdue ["_law_stores", "_law_readings_here"] (defScope s_due) := ⟨rfl, rfl, rfl, by decide +kernel, rfl, by decide +kernel, by decide +kernel⟩
def spDue : Sp := fun vs H Q _ => ∃ (S R : Addr) (m : Nat) (ys vs' : List V) (ts : List Tb) (rs : List Rd), vs = [.ref S, .ref R] ∧ H S = some (.lst ys) ∧ Paired (SsAt m H) ys ts ∧ H R = some (.lst vs') ∧ Paired (RdAt H) vs' rs ∧ rs.length ≤ 1000 ∧
  ∀ G, Kp No H G → Q (oN (due ts rs)) G
theorem ok_due (T : Txt K mg A) : ∃ fd, FnOk P w K mg base CX0 2 (A.d 57) fd ["_law_stores", "_law_readings_here"] spDue ∧ Binds K fd ["_law_stores", "_law_readings_here"] [] := by
  obtain ⟨fd, F⟩ := T.due.fn
  obtain ⟨fdS, Gseen, bseen⟩ := ok_seen (P := P) (w := w) (base := base) T
  refine ⟨fd, F.ok scdue (fun vs H Q E h => ?_) (fun cdv Ar outer s0 H vs Q E hr h => ?_), F.binds fun _ _ _ _ _ _ us hl => match us, hl with | [_, _], _ => rfl⟩
  · obtain ⟨S, R, m, ys, vs', ts, rs, rfl, _⟩ := h
    rfl
  · obtain ⟨S, R, m, ys, vs, ts, rs, rfl, hS, pS, hR, pR, hrl, k⟩ := h
    have hu := hu_of hr
    have hvl : vs.length = rs.length := pR.length
    refine ⟨_, (pss_cons (ps_for PassesOwn.never rfl (pi_range1 (by rfl) T.range (pa_cons (pe_callB call_len_seq (by rfl) T.len PySem.boot_len (pa_cons (pv 1) pa_nil)) pa_nil)) (pg_name (i := 2) scdue.nd rfl (Or.inl rfl))
        (pss_cons (ps_asg (pe_ix ix_list (pv 1) (pv 2) (fun _ _ => rfl)) (pg_tup rfl (pgs_cons (pg_name (i := 3) scdue.nd rfl (Or.inr rfl)) (pgs_cons (pg_name (i := 4) scdue.nd rfl (Or.inl rfl)) (pgs_cons (pg_name (i := 5) scdue.nd rfl (Or.inl rfl)) (pgs_cons (pg_name (i := 6) scdue.nd rfl (Or.inl rfl)) pgs_nil))))))
        (pss_cons (ps_setLc (i := 7) (own := [("_law_reading", 8)]) (g := (gName 8)) (te := tOp (rIxT K) (tVar 8) (tC (.int 1))) (tt := tTest (tOp rEq (tOp (rIxT K) (tVar 8) (tC (.int 0))) (tVar 3))) (by rfl) scdue.nd rfl rfl (sw_true rfl rfl rfl (by decide +kernel)) (pi_list (pe_slice sl_list (pv 1) po_none (po_some (pv 2)))) (blkOk_by (N := Nscdue) (sc := defScope s_due) (by decide +kernel)) (fun _ _ _ _ _ => pg_name (i := 8) scdue.nd rfl (Or.inl rfl)) (fun _ _ _ _ _ => (pts_one (pt_cmpR op_eq (pe_ix ix_tup (pv 8) pe_int (fun _ _ => rfl)) (pv 3) (nomark _)))) (fun _ _ _ _ _ => (pe_ix ix_tup (pv 8) pe_int (fun _ _ => rfl))))
        (pss_cons (ps_if (PW.pt (pw_or (pt_cmpR op_lt (pv 4) pe_int (nomark _)) (pw_or (pt_cmpR op_ge (pv 4) (pe_callB call_len_seq (by rfl) T.len PySem.boot_len (pa_cons (pv 0) pa_nil)) (nomark _)) (pw_or1 (pt_cmpR op_lt (pv 4) (pe_callB (cr_max rfl) (by rfl) T.max (by decide +kernel) (pa_cons (pe_op op_cat (pe_lst (pa_cons pe_int pa_nil)) (pv 7)) pa_nil)) (nomark _))))))
          (pss_one (ps_ret (pv 2)))
          pss_nil)
        (pss_one (ps_if (pt_cmpR op_ne (pe_call Gseen (hr.mono (by first | decide | omega)) rfl T.seen.at_ T.seen.kp bseen .nil pass0 (pa_cons (pe_ix ix_list (pv 0) (pv 4) (fun _ _ => rfl)) (pa_cons (pv 5) pa_nil))) (pv 6) (nomark _))
          (pss_one (ps_ret (pv 2)))
          pss_nil))))))
      (pss_one (ps_ret pe_non))), ?_⟩
    refine ⟨_, rfl, R, vs, rfl, .inl (SqL.of hR), (vs.length : Int), rfl, by omega, by omega, ?_⟩
    refine for_range (lo := 0) (n := (vs.length : Int).toNat) (fun i σ G => Kp No H G ∧ (∃ o2 o3 o4 o5 o6 o7, σ = [some (.ref S), some (.ref R), o2, o3, o4, o5, o6, o7, none]) ∧ ∃ ls, Mx ls (rs.take i) ∧ due ts rs = dueFrom ts ls i (rs.drop i))
      ⟨Kp.refl _ _, ⟨_, _, _, _, _, _, rfl⟩, fun _ => 0, by rw [List.take_zero]; exact Mx.nil, rfl⟩ ?_ ?_
    · rintro i σ G hi ⟨kp, ⟨o2, o3, o4, o5, o6, o7, rfl⟩, ls, mx, hdue⟩
      have hil : i < vs.length := by omega
      obtain ⟨r, hr2, t, ht0, ht⟩ := paired_at pR (List.getElem?_eq_getElem hil)
      have dr : rs.drop i = r :: rs.drop (i + 1) := by
        obtain ⟨h1, h2⟩ := List.getElem?_eq_some_iff.mp hr2
        rw [List.drop_eq_getElem_cons h1, h2]
      rw [dr] at hdue
      have stop : fits ts ls r = false → ∀ G2, Kp No H G2 → Q (.int ((i : Nat) : Int)) G2 := fun z G2 k2 => by
        have := k G2 k2
        rw [hdue] at this
        unfold dueFrom at this
        rw [if_neg (by rw [z]; decide)] at this
        exact this
      have go : fits ts ls r = true → due ts rs = dueFrom ts (ls.set r.hand r.num) (i + 1) (rs.drop (i + 1)) := fun z => by
        rw [hdue]
        conv => lhs; unfold dueFrom
        rw [if_pos z]
      have hRG : G R = some (.lst vs) := kp.t.lst hR fun z => z
      have htG : G t = some (.tup r.vs) := kp.t.tup ht
      refine ⟨_, rfl, _, rfl, R, vs, (0 + (i : Nat)), .ref t, rfl, rfl, SqL.of hRG, by rw [Int.zero_add]; exact atI_nat (by rw [← ht0]; exact List.getElem?_eq_getElem hil), ?_⟩
      refine ⟨t, _, rfl, SqT.of htG, rfl, _, _, rfl, _, _, rfl, _, _, rfl, _, _, rfl, rfl, ?_⟩
      -- the numbers of the hand's readings ahead
      refine ⟨_, rfl, _, rfl, _, rfl, R, vs, rfl, SqL.of hRG, fun p np => ?_⟩
      rw [Int.zero_add, cut_take vs i (by omega)]
      have kP : Kp No H (upd G p (.lst (vs.take i))) := kp.andN np
      refine ⟨p, rfl, ⟨_, SqL.of upd_same⟩, fun D nD => ?_⟩
      refine lc_list (K := K) (a := p) (xs := vs.take i) (g := gName 8) (fun j J => Kp (fun b => b = D) (upd G p (.lst (vs.take i))) J ∧ J D = some (.lst ((nums r.hand (rs.take j)).map V.int))) ⟨Kp.new nD, by rw [upd_same, List.take_zero]; rfl⟩ (fun j J _ ⟨kj, _⟩ => SqL.of (kj.t.lst upd_same (ne_of_none upd_same nD))) ?_ ?_
      · rintro j x J hx ⟨kj, hJD⟩
        obtain ⟨q, hq0, tq, rfl, htq⟩ := paired_at (paired_take pR i) hx
        obtain ⟨hji, hq⟩ : j < i ∧ rs[j]? = some q := by
          rw [List.getElem?_take] at hq0
          split at hq0
          · exact ⟨by assumption, hq0⟩
          · cases hq0
        have htJ : J tq = some (.tup q.vs) := kj.t.tup (kP.t.tup htq)
        have tk1 : rs.take (j + 1) = rs.take j ++ [q] := take_snoc hq
        refine ⟨rfl, _, rfl, tq, _, 0, .int q.hand, rfl, rfl, SqT.of htJ, rfl, _, rfl, rfl, _, rfl, ite2 (fun e => ?_) (fun e => ?_)⟩
        · have e' : q.hand = r.hand := by simpa using e
          refine ⟨_, rfl, tq, _, 1, .int q.num, rfl, rfl, SqT.of htJ, rfl, _, hJD, szL ?_, kj.andL hJD rfl, ?_⟩
          · rw [List.length_map]
            unfold nums
            rw [List.length_map]
            exact Nat.le_trans (List.length_filter_le _ _) (by rw [List.length_take]; omega)
          · rw [upd_same, tk1, nums_snoc, if_pos e', List.map_append]
            rfl
        · have e' : ¬ q.hand = r.hand := by simpa using e
          refine ⟨kj, ?_⟩
          rw [tk1, nums_snoc, if_neg e']
          exact hJD
      · rintro J ⟨kj, hJD⟩
        have hl1 : (vs.take i).length = i := by rw [List.length_take]; omega
        rw [hl1] at hJD
        have kJ : Kp No H J := kp_fresh ((kP.sub (F' := fun b => b = D) fun _ z => False.elim z).trans kj fun _ z => .inl z) fun b z => by rw [z]; exact kP.free nD fun z => False.elim z
        have hSJ := kJ.t.lst hS fun z => z
        by_cases n0 : r.num < 0
        · refine ⟨_, rfl, _, _, rfl, rfl, _, rfl, ?_⟩
          rw [decide_eq_true n0]
          refine iteT (iteT ⟨_, rfl, stop ?_ J kJ⟩)
          have : inB (ls r.hand) (ts.length - 1) r.num = false := by
            have := mx.pos r.hand
            unfold inB
            rw [decide_eq_false (by omega), Bool.false_and]
          unfold fits
          rw [this, Bool.false_and]
        refine ⟨_, rfl, _, _, rfl, rfl, _, rfl, ?_⟩
        rw [decide_eq_false n0]
        have hyt : ys.length = ts.length := pS.length
        by_cases n1 : (ys.length : Int) ≤ r.num
        · refine iteF ⟨_, rfl, _, rfl, S, ys, rfl, .inl (SqL.of hSJ), _, _, rfl, rfl, _, rfl, ?_⟩
          rw [decide_eq_true (show r.num ≥ (ys.length : Int) from n1)]
          refine iteT (iteT ⟨_, rfl, stop ?_ J kJ⟩)
          have : inB (ls r.hand) (ts.length - 1) r.num = false := by
            unfold inB
            rw [decide_eq_false (show ¬ r.num ≤ (ts.length : Int) - 1 by omega), Bool.and_false]
          unfold fits
          rw [this, Bool.false_and]
        refine iteF ⟨_, rfl, _, rfl, S, ys, rfl, .inl (SqL.of hSJ), _, _, rfl, rfl, _, rfl, ?_⟩
        rw [decide_eq_false (show ¬ r.num ≥ (ys.length : Int) from n1)]
        refine iteF ⟨_, rfl, sz 1 (by decide), fun e ne => ⟨_, rfl, e, D, [.int 0], (nums r.hand (rs.take i)).map V.int, rfl, rfl, upd_same, (upd_ne (ne_of_none hJD ne)).trans hJD, sz _ ?_, fun l nl => ?_⟩⟩
        · rw [List.length_map]
          unfold nums
          rw [List.length_map]
          have : ((rs.take i).filter fun r' => decide (r'.hand = r.hand)).length ≤ i := Nat.le_trans (List.length_filter_le _ _) (by rw [List.length_take]; omega)
          simp only [List.length_cons, List.length_nil]
          omega
        have kL : Kp No H _ := (kJ.andN (o' := .lst [.int 0]) ne).andN (o' := .lst ([.int 0] ++ (nums r.hand (rs.take i)).map V.int)) nl
        have hlL : upd (upd J e (.lst [.int 0])) l (.lst ([.int 0] ++ (nums r.hand (rs.take i)).map V.int)) l = some (.lst ((0 :: nums r.hand (rs.take i)).map V.int)) := by rw [upd_same]; rfl
        generalize upd (upd J e (.lst [.int 0])) l (.lst ([.int 0] ++ (nums r.hand (rs.take i)).map V.int)) = L at kL hlL ⊢
        refine ⟨l, 0 :: nums r.hand (rs.take i), rfl, SqL.of hlL, Nat.succ_pos _, fun mm hm hmax => ?_⟩
        have em : mm = ls r.hand := by
          refine Int.le_antisymm ?_ (hmax _ (mx.of r.hand))
          rcases List.mem_cons.mp hm with z | z
          · rw [z]; exact mx.pos _
          · exact mx.le _ _ z
        subst em
        refine ⟨_, _, rfl, rfl, _, rfl, ?_⟩
        by_cases n2 : r.num < ls r.hand
        · rw [decide_eq_true n2]
          refine iteT ⟨_, rfl, stop ?_ L kL⟩
          unfold fits inB
          rw [decide_eq_false (show ¬ ls r.hand ≤ r.num by omega), Bool.false_and, Bool.false_and]
        rw [decide_eq_false n2]
        have hlt : r.num.toNat < ys.length := by omega
        obtain ⟨tb, htb, s, r', h', g, nm, evs, St, okr⟩ := paired_at pS (List.getElem?_eq_getElem hlt)
        have fq : fits ts ls r = decide (seen tb.mom tb.rows r.key = r.worth) := by
          unfold fits
          rw [inB_t.mpr ⟨by omega, by omega⟩, htb, Bool.true_and]
          show (okW r.worth && decide (seen tb.mom tb.rows r.key = r.worth)) = _
          by_cases z : seen tb.mom tb.rows r.key = r.worth
          · rw [← z, seen_ok okr]
            rfl
          · rw [decide_eq_false z, Bool.and_false]
        have hat : atI ys r.num = some (.ref s) := by
          unfold atI
          rw [ixN_in (by omega) (by omega)]
          show ys[r.num.toNat]? = _
          rw [List.getElem?_eq_getElem hlt, evs]
        refine iteF ⟨_, rfl, _, rfl, S, ys, r.num, .ref s, rfl, rfl, SqL.of (kL.t.lst hS fun z => z), hat, _, rfl, s, r', h', r.key, tb, g, nm, _, rfl, St.kt kL.t (fun _ _ _ z => z), fun M kM => ?_⟩
        have kHM : Kp No H M := kL.trans kM fun _ z => False.elim z
        refine ⟨_, rfl, scal_oV _ _, _, rfl, ?_⟩
        show (if (!decide (oV (seen tb.mom tb.rows r.key) = oV r.worth)) = true then _ else _)
        rw [oV_eq]
        by_cases z : seen tb.mom tb.rows r.key = r.worth
        · rw [decide_eq_true z]
          refine iteF ⟨kHM, ⟨_, _, _, _, _, _, rfl⟩, ls.set r.hand r.num, ?_, go (by rw [fq, decide_eq_true z])⟩
          rw [take_snoc hr2]
          exact mx.snoc (by omega)
        · rw [decide_eq_false z]
          exact iteT ⟨_, rfl, stop (by rw [fq, decide_eq_false z]) M kHM⟩
    · rintro σ G ⟨kp, ⟨o2, o3, o4, o5, o6, o7, rfl⟩, ls, mx, hdue⟩
      have e0 : rs.drop (vs.length : Int).toNat = [] := List.drop_of_length_le (by omega)
      rw [e0] at hdue
      have := k G kp
      rw [hdue] at this
      exact this
end
end S16

set_option Elab.async false
set_option linter.all false
set_option maxRecDepth 100000
set_option maxHeartbeats 4000000
namespace S16
open PySem PySem.Spec PyProof.Rows L2 K5 SupX
def Er.word : Er → Str
  | .hand => "BadHand"
  | .key => "BadKey"
  | .entry => "BadEntry"
  | .deal _ => "BadDeal"
def Er.num : Er → Int
  | .deal p => p
  | _ => 0
/-- an entry that can't be, and what is refused -/
def OdAt (G : Hp) (v : V) (x : En × Er) : Prop := ∃ a ev d, v = .ref a ∧ G a = some (.tup [ev, .ref d]) ∧ EnAt G ev x.1 ∧ G d = some (.tup [.str x.2.word, .int x.2.num])
theorem OdAt.kt {F : Addr → Prop} {H G : Hp} (k : Kt F H G) {v : V} {x : En × Er} (h : OdAt H v x) : OdAt G v x := let ⟨a, ev, d, e, q, n, r⟩ := h; ⟨a, ev, d, e, k.tup q, n.kt k, k.tup r⟩
theorem OdAt.mk {G : Hp} {ev : V} {e : En} {er : Er} {d a : Addr} (h : EnAt G ev e) (n1 : G d = none) (n2 : upd G d (.tup [.str er.word, .int er.num]) a = none) : OdAt (upd (upd G d (.tup [.str er.word, .int er.num])) a (.tup [ev, .ref d])) (.ref a) (e, er) :=
  ⟨a, ev, d, rfl, upd_same, h.kt ((Kp.new (F := No) n1).andN n2).t, by rw [upd_ne (upd_none n2).1.symm, upd_same]⟩
/-- the law's eight entries that can't be -/
def odds (m : Int) : List (En × Er) := [(.tick m, .entry), (.tick 1000001, .entry), (.odd, .entry), (.odd, .entry), (.odd, .entry), (.deal 4 [], .hand), (.deal 0 [], .deal 0), (.deal 1 [.drop 0, .drop 32], .deal 1)]
theorem odds_bad {m : Int} (h : 0 ≤ m) : ∀ x ∈ odds m, x.1.bad m = some x.2 := by
  intro x hx
  simp only [odds, List.mem_cons, List.not_mem_nil, or_false] at hx
  rcases hx with rfl | rfl | rfl | rfl | rfl | rfl | rfl | rfl
  · have : inB (m + 1) 1000000 m = false := by
      unfold inB
      rw [decide_eq_false (by omega), Bool.false_and]
    simp only [En.bad, this]
    rfl
  · have : inB (m + 1) 1000000 1000001 = false := by
      unfold inB
      rw [decide_eq_false (show ¬ (1000001 : Int) ≤ 1000000 by omega), Bool.and_false]
    simp only [En.bad, this]
    rfl
  · rfl
  · rfl
  · rfl
  · rfl
  · rfl
  · rfl
/-! the ticks -/
def tks : List En → List Int
  | [] => []
  | .tick t :: es => t :: tks es
  | .deal _ _ :: es => tks es
  | .odd :: es => tks es
theorem tks_app (es fs : List En) : tks (es ++ fs) = tks es ++ tks fs := by
  induction es with
  | nil => rfl
  | cons e es ih => cases e <;> simp [tks, ih]
theorem tks_len (es : List En) : (tks es).length ≤ es.length := by
  induction es with
  | nil => exact Nat.le_refl _
  | cons e es ih => cases e <;> simp only [tks, List.length_cons] <;> omega
theorem tks_max {s : Tb} {es : List En} (h : badE s es = none) : s.mom ≤ (lastT s es).mom ∧ (∀ x ∈ tks es, x ≤ (lastT s es).mom) ∧ (lastT s es).mom ∈ s.mom :: tks es := by
  induction es generalizing s with
  | nil => exact ⟨Int.le_refl _, fun _ z => by (cases z), List.mem_cons_self⟩
  | cons e es ih =>
    simp only [badE] at h
    cases q : e.bad s.mom with
    | some r => rw [q] at h; cases h
    | none =>
      rw [q] at h
      obtain ⟨i1, i2, i3⟩ := ih h
      have el : lastT s (e :: es) = lastT (s.next e) es := rfl
      rw [el]
      cases e with
      | deal hd ds => exact ⟨i1, i2, i3⟩
      | odd => cases q
      | tick t =>
        simp only [En.bad] at q
        have hb : inB (s.mom + 1) 1000000 t = true := by
          cases z : inB (s.mom + 1) 1000000 t with
          | true => rfl
          | false => rw [z] at q; cases q
        have hb2 := (inB_t.mp hb).1
        have i1' : t ≤ (lastT (s.next (.tick t)) es).mom := i1
        refine ⟨by omega, fun x hx => ?_, ?_⟩
        · rcases List.mem_cons.mp hx with z | z
          · rw [z]; exact i1'
          · exact i2 x z
        · exact List.mem_cons_of_mem _ i3
theorem not_odd {s : Tb} {es : List En} (h : badE s es = none) : ∀ e ∈ es, e ≠ .odd := by
  induction es generalizing s with
  | nil => exact fun _ z => by cases z
  | cons e es ih =>
    simp only [badE] at h
    cases q : e.bad s.mom with
    | some r => rw [q] at h; cases h
    | none =>
      rw [q] at h
      intro x hx
      rcases List.mem_cons.mp hx with z | z
      · rw [z]
        intro y
        rw [y] at q
        cases q
      · exact ih h x z
theorem badE_pre {s : Tb} {es : List En} (h : badE s es = none) (i : Nat) : badE s (es.take i) = none := by
  induction es generalizing s i with
  | nil => rw [List.take_nil]; rfl
  | cons e es ih =>
    cases i with
    | zero => rfl
    | succ i =>
      simp only [badE] at h
      simp only [List.take_succ_cons, badE]
      cases q : e.bad s.mom with
      | some r => rw [q] at h; cases h
      | none =>
        rw [q] at h
        exact ih h i
theorem badR_pre {rs : List Rd} (h : badR rs = none) (i : Nat) : badR (rs.take i) = none := by
  induction rs generalizing i with
  | nil => rw [List.take_nil]; rfl
  | cons r rs ih =>
    cases i with
    | zero => rfl
    | succ i =>
      simp only [badR] at h
      simp only [List.take_succ_cons, badR]
      cases q : r.bad with
      | some e => rw [q] at h; cases h
      | none =>
        rw [q] at h
        exact ih h i
def Odd (es : List En) (rs : List Rd) (er : Er) : Prop := badE Tb.new es = some er ∨ (badE Tb.new es = none ∧ badR rs = some er)
section
variable {P : Program} {w : World} {K : PySem.W.Frag} {mg : Str → Option Value} {base : Heap} {A : Ad}
abbrev Nscodd : List Str := ["_law_box", "_law_entries_here", "_law_readings_here", "_law_at", "_law_moment", "_law_some", "_law_k", "_law_far", "_law_behind", "_law_place", "_law_bad", "_law_entry"]
theorem scodd : FnScope Nscodd ["_law_box", "_law_entries_here", "_law_readings_here"] (defScope s_odd) := ⟨rfl, rfl, rfl, by decide +kernel, rfl, by decide +kernel, by decide +kernel⟩
def spOdd : Sp := fun vs H Q _ => ∃ (bx bi E R : Addr) (xs ys : List V) (es : List En) (rs : List Rd), vs = [.ref bx, .ref E, .ref R] ∧ BoxAt H bx bi ∧ ¬ bF bx bi E ∧ ¬ bF bx bi R ∧ H E = some (.lst xs) ∧ Paired (EnAt H) xs es ∧ es.length ≤ 40 ∧ badE Tb.new es = none ∧ H R = some (.lst ys) ∧ Paired (RdAt H) ys rs ∧ rs.length ≤ 31 ∧ badR rs = none ∧
  ∀ G p e r d xs' es' ys' rs' er, BoxAt G bx bi → Kp (bF bx bi) H G → G p = some (.tup [.ref e, .ref r, .ref d]) → G e = some (.lst xs') → Paired (EnAt G) xs' es' → es'.length ≤ 100 → G r = some (.lst ys') → Paired (RdAt G) ys' rs' → rs'.length ≤ 100 → G d = some (.tup [.str er.word, .int er.num]) → ¬ bF bx bi e → ¬ bF bx bi r → Odd es' rs' er → Q (.ref p) G
theorem ok_odd (T : Txt K mg A) : ∃ fd, FnOk P w K mg base CX0 2 (A.d 58) fd ["_law_box", "_law_entries_here", "_law_readings_here"] spOdd ∧ Binds K fd ["_law_box", "_law_entries_here", "_law_readings_here"] [] := by
  obtain ⟨fd, F⟩ := T.odd.fn
  obtain ⟨fdT, Gtake, btake⟩ := ok_take (P := P) (w := w) (base := base) T
  refine ⟨fd, F.ok scodd (fun vs H Q E h => ?_) (fun cdv Ar outer s0 H vs Q Ex h1 h => ?_), F.binds fun _ _ _ _ _ _ us hl => match us, hl with | [_, _, _], _ => rfl⟩
  · obtain ⟨bx, bi, E, R, xs, ys, es, rs, rfl, _⟩ := h
    rfl
  · have hr := h1
    obtain ⟨bx, bi, E, R, xs, ys, es, rs, rfl, B, hEb, hRb, hE, pE, hel, hbE, hR, pR, hrl, hbR, k⟩ := h
    have hu := hu_of hr
    have hxl : xs.length = es.length := pE.length
    have hyl : ys.length = rs.length := pR.length
    have big : ∀ m : Int, 0 < m → m ≤ 1000000000000000000 → m.natAbs < 2 ^ 90 := fun m h1 h2 => Nat.lt_of_le_of_lt (by omega : m.natAbs ≤ 1000000000000000000) (by decide)
    refine ⟨_, (pss_cons (ps_set (i := 3) scodd.nd rfl (Or.inl rfl) (pe_call Gtake (hr.mono (by first | decide | omega)) rfl T.take.at_ T.take.kp btake .nil pass0 (pa_cons (pv 0) (pa_cons (pe_op op_add (pe_callB call_len_seq (by rfl) T.len PySem.boot_len (pa_cons (pv 1) pa_nil)) pe_int) pa_nil))))
      (pss_cons (ps_set (i := 4) scodd.nd rfl (Or.inl rfl) (pe_callB (cr_max rfl) (by rfl) T.max (by decide +kernel) (pa_cons (pe_op op_cat (pe_lst (pa_cons pe_int pa_nil)) (pe_lc (own := [("_law_entry", 11)]) (g := (gName 11)) (te := tOp (rIxT K) (tVar 11) (tC (.int 1))) (tt := tTest (tOp rEq (tOp (rIxT K) (tVar 11) (tC (.int 0))) (tC (.str "tick")))) (by rfl) scodd.nd (pi_list (pe_slice sl_list (pv 1) po_none (po_some (pv 3)))) (blkOk_by (N := Nscodd) (sc := defScope s_odd) (by decide +kernel)) (fun _ _ _ _ _ => pg_name (i := 11) scodd.nd rfl (Or.inl rfl)) (fun _ _ _ _ _ => (pts_one (pt_cmpR op_eq (pe_ix ix_tup (pv 11) pe_int (fun _ _ => rfl)) pe_str (nomark _)))) (fun _ _ _ _ _ => (pe_ix ix_tup (pv 11) pe_int (fun _ _ => rfl))))) pa_nil)))
      (C8.pss_cut (ps_set (i := 5) scodd.nd rfl (Or.inl rfl) (pe_lst (pa_cons (pe_tup (pa_cons (pe_tup (pa_cons pe_str (pa_cons (pv 4) pa_nil))) (pa_cons (pe_tup (pa_cons pe_str (pa_cons pe_int pa_nil))) pa_nil))) (pa_cons (pe_tup (pa_cons (pe_tup (pa_cons pe_str (pa_cons (pe_op op_add (pe_op op_pow pe_int pe_int) pe_int) pa_nil))) (pa_cons (pe_tup (pa_cons pe_str (pa_cons pe_int pa_nil))) pa_nil))) (pa_cons (pe_tup (pa_cons (pe_tup pa_nil) (pa_cons (pe_tup (pa_cons pe_str (pa_cons pe_int pa_nil))) pa_nil))) pa_nil)))))
      (C8.pss_cut (ps_set (i := 5) scodd.nd rfl (Or.inl rfl) (pe_op op_cat (pv 5) (pe_lst (pa_cons (pe_tup (pa_cons (pe_tup (pa_cons pe_str pa_nil)) (pa_cons (pe_tup (pa_cons pe_str (pa_cons pe_int pa_nil))) pa_nil))) (pa_cons (pe_tup (pa_cons (pe_tup (pa_cons pe_str (pa_cons pe_int (pa_cons (pe_tup (pa_cons (pe_tup (pa_cons pe_str (pa_cons pe_int pa_nil))) pa_nil)) pa_nil)))) (pa_cons (pe_tup (pa_cons pe_str (pa_cons pe_int pa_nil))) pa_nil))) pa_nil)))))
      (C8.pss_cut (ps_set (i := 5) scodd.nd rfl (Or.inl rfl) (pe_op op_cat (pv 5) (pe_lst (pa_cons (pe_tup (pa_cons (pe_tup (pa_cons pe_str (pa_cons pe_int (pa_cons (pe_tup pa_nil) pa_nil)))) (pa_cons (pe_tup (pa_cons pe_str (pa_cons pe_int pa_nil))) pa_nil))) (pa_cons (pe_tup (pa_cons (pe_tup (pa_cons pe_str (pa_cons pe_int (pa_cons (pe_tup pa_nil) pa_nil)))) (pa_cons (pe_tup (pa_cons pe_str (pa_cons pe_int pa_nil))) pa_nil))) pa_nil)))))
      (C8.pss_cut (ps_expr (pe_bm PySem.F.plainAttrs_list PySem.F.slot_list_append PySem.F.type_list_append mt_append (pv 5) (pa_cons (pe_tup (pa_cons (pe_tup (pa_cons pe_str (pa_cons pe_int (pa_cons (pe_tup (pa_cons (pe_tup (pa_cons pe_str (pa_cons pe_int pa_nil))) (pa_cons (pe_tup (pa_cons pe_str (pa_cons pe_int pa_nil))) pa_nil))) pa_nil)))) (pa_cons (pe_tup (pa_cons pe_str (pa_cons pe_int pa_nil))) pa_nil))) pa_nil)))
      (pss_cons (ps_par (i := 6) (j := 7) (by rfl) scodd.nd rfl rfl (by decide) rfl rfl (pa_cons (pe_call Gtake (hr.mono (by first | decide | omega)) rfl T.take.at_ T.take.kp btake .nil pass0 (pa_cons (pv 0) (pa_cons pe_int pa_nil))) (pa_cons (pe_op op_add pe_int (pe_call Gtake (hr.mono (by first | decide | omega)) rfl T.take.at_ T.take.kp btake .nil pass0 (pa_cons (pv 0) (pa_cons (pe_ix ix_list (pe_lst (pa_cons pe_int (pa_cons (pe_op op_pow pe_int pe_int) pa_nil))) (pe_call Gtake (hr.mono (by first | decide | omega)) rfl T.take.at_ T.take.kp btake .nil pass0 (pa_cons (pv 0) (pa_cons pe_int pa_nil))) (fun _ _ => rfl)) pa_nil)))) pa_nil)) (by rfl))
      (pss_cons (ps_if (pt_cmpR op_lt (pv 6) pe_int (nomark _))
        (pss_cons (ps_set (i := 8) scodd.nd rfl (Or.inl rfl) (pe_ix ix_list (pe_lst (pa_cons (pe_op op_cat (pe_slice sl_list (pv 1) (po_some (pv 3)) po_none) (pe_lst (pa_cons (pe_tup pa_nil) pa_nil))) (pa_cons (pe_lst pa_nil) pa_nil))) (pe_call Gtake (hr.mono (by first | decide | omega)) rfl T.take.at_ T.take.kp btake .nil pass0 (pa_cons (pv 0) (pa_cons pe_int pa_nil))) (fun _ _ => rfl)))
        (pss_one (ps_ret (pe_tup (pa_cons (pe_op op_cat (pe_op op_cat (pe_slice sl_list (pv 1) po_none (po_some (pv 3))) (pe_lst (pa_cons (pe_ix ix_tup (pe_ix ix_list (pv 5) (pv 6) (fun _ _ => rfl)) pe_int (fun _ _ => rfl)) pa_nil))) (pv 8)) (pa_cons (pe_op op_cat (pv 2) (pe_lst (pa_cons (pe_tup (pa_cons pe_int (pa_cons pe_int (pa_cons pe_int (pa_cons pe_int pa_nil))))) pa_nil))) (pa_cons (pe_ix ix_tup (pe_ix ix_list (pv 5) (pv 6) (fun _ _ => rfl)) pe_int (fun _ _ => rfl)) pa_nil)))))))
        pss_nil)
      (pss_cons (ps_if (pt_cmpR op_eq (pv 6) pe_int (nomark _))
        (pss_one (ps_ret (pe_tup (pa_cons (pe_op op_cat (pv 1) (pe_lst (pa_cons (pe_tup (pa_cons pe_str (pa_cons (pe_op op_add (pe_op op_pow pe_int pe_int) (pv 7)) pa_nil))) pa_nil))) (pa_cons (pe_op op_cat (pv 2) (pe_lst (pa_cons (pe_tup (pa_cons pe_int (pa_cons pe_int (pa_cons pe_int (pa_cons pe_int pa_nil))))) pa_nil))) (pa_cons (pe_tup (pa_cons pe_str (pa_cons pe_int pa_nil))) pa_nil))))))
        pss_nil)
      (pss_cons (ps_set (i := 9) scodd.nd rfl (Or.inl rfl) (pe_call Gtake (hr.mono (by first | decide | omega)) rfl T.take.at_ T.take.kp btake .nil pass0 (pa_cons (pv 0) (pa_cons (pe_op op_add (pe_callB call_len_seq (by rfl) T.len PySem.boot_len (pa_cons (pv 2) pa_nil)) pe_int) pa_nil))))
      (pss_cons (ps_set (i := 10) scodd.nd rfl (Or.inl rfl) (pe_ix ix_list (pe_lst (pa_cons (pe_tup (pa_cons (pe_tup (pa_cons pe_int (pa_cons pe_int (pa_cons pe_int (pa_cons pe_int pa_nil))))) (pa_cons (pe_tup (pa_cons pe_str (pa_cons pe_int pa_nil))) pa_nil))) (pa_cons (pe_tup (pa_cons (pe_tup (pa_cons pe_int (pa_cons pe_int (pa_cons pe_int (pa_cons pe_int pa_nil))))) (pa_cons (pe_tup (pa_cons pe_str (pa_cons pe_int pa_nil))) pa_nil))) pa_nil))) (pe_op op_sub (pv 6) pe_int) (fun _ _ => rfl)))
      (pss_one (ps_ret (pe_tup (pa_cons (pv 1) (pa_cons (pe_op op_cat (pe_op op_cat (pe_op op_cat (pe_slice sl_list (pv 2) po_none (po_some (pv 9))) (pe_lst (pa_cons (pe_ix ix_tup (pv 10) pe_int (fun _ _ => rfl)) pa_nil))) (pe_slice sl_list (pv 2) (po_some (pv 9)) po_none)) (pe_lst (pa_cons (pe_tup (pa_cons (pe_un un_neg pe_int) (pa_cons pe_int (pa_cons (pe_un un_neg pe_int) (pa_cons pe_int pa_nil))))) pa_nil))) (pa_cons (pe_ix ix_tup (pv 10) pe_int (fun _ _ => rfl)) pa_nil))))))))))))))))), ?_⟩
    -- where, and the moment there
    refine ⟨_, rfl, _, rfl, E, xs, rfl, .inl (SqL.of hE), _, _, rfl, rfl, bx, bi, _, rfl, B, by omega, big _ (by omega) (by omega), fun at_ G1 a1 b1 B1 k1 => ?_⟩
    obtain ⟨i, rfl⟩ : ∃ i : Nat, at_ = (i : Int) := ⟨at_.toNat, by omega⟩
    have hil : i ≤ es.length := by omega
    have hE1 : G1 E = some (.lst xs) := k1.t.lst hE hEb
    refine ⟨sz 1 (by decide), fun e ne => ⟨_, rfl, _, rfl, _, rfl, E, xs, rfl, SqL.of ((upd_ne (ne_of_none hE1 ne)).trans hE1), fun p np => ?_⟩⟩
    rw [cut_take xs i (by omega)]
    refine ⟨p, rfl, ⟨_, SqL.of upd_same⟩, fun D nD => ?_⟩
    have kP1 : Kp No G1 (upd (upd G1 e (.lst [.int 0])) p (.lst (xs.take i))) := (Kp.new ne).andN np
    have he2 : upd (upd G1 e (.lst [.int 0])) p (.lst (xs.take i)) e = some (.lst [.int 0]) := (upd_ne (upd_none np).1.symm).trans upd_same
    have hp2 : upd (upd G1 e (.lst [.int 0])) p (.lst (xs.take i)) p = some (.lst (xs.take i)) := upd_same
    generalize upd (upd G1 e (.lst [.int 0])) p (.lst (xs.take i)) = G2 at kP1 he2 hp2 nD ⊢
    have pE2 : Paired (EnAt G2) xs es := pE.mono fun _ _ z => (z.kt k1.t).kt kP1.t
    refine lc_list (K := K) (a := p) (xs := xs.take i) (g := gName 11) (fun j J => Kp (fun b => b = D) G2 J ∧ J D = some (.lst ((tks (es.take j)).map V.int))) ⟨Kp.new nD, by rw [upd_same, List.take_zero]; rfl⟩ (fun j J _ ⟨kj, _⟩ => SqL.of (kj.t.lst hp2 (ne_of_none hp2 nD))) ?_ ?_
    · rintro j x J hx ⟨kj, hJD⟩
      obtain ⟨q, hq0, hxq⟩ := paired_at (paired_take pE2 i) hx
      obtain ⟨hji, hq⟩ : j < i ∧ es[j]? = some q := by
        rw [List.getElem?_take] at hq0
        split at hq0
        · exact ⟨by assumption, hq0⟩
        · cases hq0
      have tk1 : es.take (j + 1) = es.take j ++ [q] := take_snoc hq
      have hno := not_odd hbE q (List.mem_of_getElem? hq)
      have hxJ := hxq.kt kj.t
      cases q with
      | odd => exact absurd rfl hno
      | deal h ds =>
        obtain ⟨b, dv, rfl, hb, _⟩ := hxJ
        refine ⟨rfl, _, rfl, b, _, 0, .str "deal", rfl, rfl, SqT.of hb, rfl, rfl, _, rfl, iteF ⟨kj, ?_⟩⟩
        rw [tk1, tks_app]
        show _ = some (HO.lst ((tks (es.take j) ++ []).map V.int))
        rw [List.append_nil]
        exact hJD
      | tick t =>
        obtain ⟨b, rfl, hb⟩ := hxJ
        refine ⟨rfl, _, rfl, b, _, 0, .str "tick", rfl, rfl, SqT.of hb, rfl, rfl, _, rfl, iteT ⟨_, rfl, b, _, 1, .int t, rfl, rfl, SqT.of hb, rfl, _, hJD, szL ?_, kj.andL hJD rfl, ?_⟩⟩
        · rw [List.length_map]
          exact Nat.le_trans (tks_len _) (by rw [List.length_take]; omega)
        · rw [upd_same, tk1, tks_app, List.map_append]
          rfl
    rintro G3 ⟨kj, hDD⟩
    rw [show (xs.take i).length = i by rw [List.length_take]; omega] at hDD
    have k3 : Kp No G1 G3 := kp_fresh ((kP1.sub (F' := fun b => b = D) fun _ z => False.elim z).trans kj fun _ z => .inl z) fun b z => by rw [z]; exact kP1.free nD fun z => False.elim z
    obtain ⟨mx1, mx2, mx3⟩ := tks_max (badE_pre hbE i)
    generalize hm : (lastT Tb.new (es.take i)).mom = m at mx1 mx2 mx3
    have m0 : 0 ≤ m := mx1
    refine ⟨e, D, [.int 0], (tks (es.take i)).map V.int, rfl, rfl, kj.t.lst he2 (ne_of_none he2 nD), hDD, sz _ ?_, fun l nl => ?_⟩
    · rw [List.length_map]
      have := tks_len (es.take i)
      rw [List.length_take] at this
      simp only [List.length_cons, List.length_nil]
      omega
    have hl4 : upd G3 l (.lst ([.int 0] ++ (tks (es.take i)).map V.int)) l = some (.lst ((0 :: tks (es.take i)).map V.int)) := by rw [upd_same]; rfl
    have k4 : Kp No G1 (upd G3 l (.lst ([.int 0] ++ (tks (es.take i)).map V.int))) := k3.andN nl
    generalize upd G3 l (.lst ([.int 0] ++ (tks (es.take i)).map V.int)) = G4 at k4 hl4 ⊢
    refine ⟨l, 0 :: tks (es.take i), rfl, SqL.of hl4, Nat.succ_pos _, fun mm hmm hmax => ?_⟩
    have em : mm = m := by
      refine Int.le_antisymm ?_ (hmax _ mx3)
      rcases List.mem_cons.mp hmm with z | z
      · rw [z]; exact m0
      · exact mx2 _ z
    subst em
    refine ⟨fun σ J => ∃ l xs, σ = [some (.ref bx), some (.ref E), some (.ref R), some (.int (i : Int)), some (.int mm), some (.ref l), none, none, none, none, none, none] ∧ Kp No G4 J ∧ G4 l = none ∧ J l = some (.lst xs) ∧ Paired (OdAt J) xs ((odds mm).take 3), ?_, ?_⟩
    · refine ⟨_, rfl, sz 2 (by decide), fun a1 n1 => ⟨sz 2 (by decide), fun a2 n2 => ⟨sz 2 (by decide), fun a3 n3 => ?_⟩⟩⟩
      refine ⟨_, _, rfl, rfl, ⟨by decide, by decide, by decide⟩, _, _, rfl, rfl, sz 2 (by decide), fun b1 m1 => ⟨sz 2 (by decide), fun b2 m2 => ⟨sz 2 (by decide), fun b3 m3 => ?_⟩⟩⟩
      refine ⟨sz 0 (by decide), fun c1 o1 => ⟨sz 2 (by decide), fun c2 o2 => ⟨sz 2 (by decide), fun c3 o3 => ⟨sz 3 (by decide), fun l2 nl2 => ?_⟩⟩⟩⟩
      have x1 := OdAt.mk (e := .tick mm) (er := .entry) ⟨a1, rfl, upd_same⟩ n2 n3
      have x2 := OdAt.mk (e := .tick 1000001) (er := .entry) ⟨b1, rfl, upd_same⟩ m2 m3
      have x3 := OdAt.mk (e := .odd) (er := .entry) ⟨c1, [], rfl, upd_same, .inl rfl⟩ o2 o3
      have q3 : Kp No _ _ := Kp.new (o := .lst [.ref a3, .ref b3, .ref c3]) nl2
      have q2 : Kp No _ _ := ((Kp.new o1).andN o2).andN (o' := .tup [.ref c1, .ref c2]) o3
      have q1 : Kp No _ _ := ((Kp.new m1).andN m2).andN (o' := .tup [.ref b1, .ref b2]) m3
      have q0 : Kp No _ _ := ((Kp.new n1).andN n2).andN (o' := .tup [.ref a1, .ref a2]) n3
      have nf : G4 l2 = none := q0.free (q1.free (q2.free nl2 fun z => False.elim z) fun z => False.elim z) fun z => False.elim z
      refine ⟨l2, _, rfl, ((q0.trans q1 fun _ z => False.elim z).trans q2 fun _ z => False.elim z).trans q3 fun _ z => False.elim z, nf, upd_same, ?_⟩
      exact .cons ((x1.kt (q1.trans q2 fun _ z => False.elim z).t).kt q3.t) (.cons ((x2.kt q2.t).kt q3.t) (.cons (x3.kt q3.t) .nil))
    rintro σ J ⟨l1, x1, rfl, kJ1, nl1, hl1, pO1⟩
    have e1 : x1.length = 3 := pO1.length
    refine ⟨fun σ J => ∃ l xs, σ = [some (.ref bx), some (.ref E), some (.ref R), some (.int (i : Int)), some (.int mm), some (.ref l), none, none, none, none, none, none] ∧ Kp No G4 J ∧ G4 l = none ∧ J l = some (.lst xs) ∧ Paired (OdAt J) xs ((odds mm).take 5), ?_, ?_⟩
    · refine ⟨_, rfl, sz 1 (by decide), fun a1 n1 => ⟨sz 2 (by decide), fun a2 n2 => ⟨sz 2 (by decide), fun a3 n3 => ?_⟩⟩⟩
      refine ⟨sz 2 (by decide), fun b0 m0' => ⟨sz 1 (by decide), fun b1 m1 => ⟨sz 3 (by decide), fun b4 m4 => ⟨sz 2 (by decide), fun b2 m2 => ⟨sz 2 (by decide), fun b3 m3 => ⟨sz 2 (by decide), fun l2 nl2 => ?_⟩⟩⟩⟩⟩⟩
      have y1 := OdAt.mk (e := .odd) (er := .entry) ⟨a1, [.str "tick"], rfl, upd_same, .inr (.inl rfl)⟩ n2 n3
      have y2 := OdAt.mk (e := .odd) (er := .entry) ⟨b4, [.str "Deal", .int 0, .ref b1], rfl, upd_same, .inr (.inr ⟨.ref b1, [.drop 0], rfl, b1, [.ref b0], rfl, (upd_ne (upd_none m4).1.symm).trans upd_same, .cons ⟨b0, rfl, ?_⟩ .nil, by decide⟩)⟩ m2 m3
      rotate_left
      · rw [upd_ne (upd_none (upd_none m4).2).1.symm, upd_ne (upd_none m1).1.symm, upd_same]
        rfl
      have q3 : Kp No _ _ := Kp.new (o := .lst [.ref a3, .ref b3]) nl2
      have q1 : Kp No _ _ := ((((Kp.new m0').andN m1).andN m4).andN m2).andN (o' := .tup [.ref b4, .ref b2]) m3
      have q0 : Kp No _ _ := ((Kp.new n1).andN n2).andN (o' := .tup [.ref a1, .ref a2]) n3
      have q02 : Kp No J _ := (q0.trans q1 fun _ z => False.elim z).trans q3 fun _ z => False.elim z
      refine ⟨l1, l2, _, _, rfl, rfl, q02.t.lst hl1 fun z => z, upd_same, sz _ (by simp [e1]), fun l3 nl3 => ?_⟩
      have q4 : Kp No _ _ := Kp.new (o := .lst (x1 ++ [.ref a3, .ref b3])) nl3
      have q04 : Kp No J _ := q02.trans q4 fun _ z => False.elim z
      refine ⟨l3, _, rfl, kJ1.trans q04 fun _ z => False.elim z, (kJ1.trans q02 fun _ z => False.elim z).free nl3 fun z => False.elim z, upd_same, ?_⟩
      exact paired_app (pO1.mono fun _ _ z => z.kt q04.t) (.cons (((y1.kt q1.t).kt q3.t).kt q4.t) (.cons ((y2.kt q3.t).kt q4.t) .nil))
    rintro σ J ⟨l2, x2, rfl, kJ2, nl2, hl2, pO2⟩
    have e2 : x2.length = 5 := pO2.length
    refine ⟨fun σ J => ∃ l xs, σ = [some (.ref bx), some (.ref E), some (.ref R), some (.int (i : Int)), some (.int mm), some (.ref l), none, none, none, none, none, none] ∧ Kp No G4 J ∧ G4 l = none ∧ J l = some (.lst xs) ∧ Paired (OdAt J) xs ((odds mm).take 7), ?_, ?_⟩
    · refine ⟨_, rfl, sz 0 (by decide), fun a0 n0 => ⟨sz 3 (by decide), fun a1 n1 => ⟨sz 2 (by decide), fun a2 n2 => ⟨sz 2 (by decide), fun a3 n3 => ?_⟩⟩⟩⟩
      refine ⟨sz 0 (by decide), fun b0 m0' => ⟨sz 3 (by decide), fun b1 m1 => ⟨sz 2 (by decide), fun b2 m2 => ⟨sz 2 (by decide), fun b3 m3 => ⟨sz 2 (by decide), fun l4 nl4 => ?_⟩⟩⟩⟩⟩
      have y1 := OdAt.mk (e := .deal 4 []) (er := .hand) ⟨a1, .ref a0, rfl, upd_same, a0, [], rfl, (upd_ne (upd_none n1).1.symm).trans upd_same, .nil, by decide⟩ n2 n3
      have y2 := OdAt.mk (e := .deal 0 []) (er := .deal 0) ⟨b1, .ref b0, rfl, upd_same, b0, [], rfl, (upd_ne (upd_none m1).1.symm).trans upd_same, .nil, by decide⟩ m2 m3
      have q3 : Kp No _ _ := Kp.new (o := .lst [.ref a3, .ref b3]) nl4
      have q1 : Kp No _ _ := (((Kp.new m0').andN m1).andN m2).andN (o' := .tup [.ref b1, .ref b2]) m3
      have q0 : Kp No _ _ := (((Kp.new n0).andN n1).andN n2).andN (o' := .tup [.ref a1, .ref a2]) n3
      have q02 : Kp No J _ := (q0.trans q1 fun _ z => False.elim z).trans q3 fun _ z => False.elim z
      refine ⟨l2, l4, _, _, rfl, rfl, q02.t.lst hl2 fun z => z, upd_same, sz _ (by simp [e2]), fun l3 nl3 => ?_⟩
      have q4 : Kp No _ _ := Kp.new (o := .lst (x2 ++ [.ref a3, .ref b3])) nl3
      have q04 : Kp No J _ := q02.trans q4 fun _ z => False.elim z
      refine ⟨l3, _, rfl, kJ2.trans q04 fun _ z => False.elim z, (kJ2.trans q02 fun _ z => False.elim z).free nl3 fun z => False.elim z, upd_same, ?_⟩
      exact paired_app (pO2.mono fun _ _ z => z.kt q04.t) (.cons (((y1.kt q1.t).kt q3.t).kt q4.t) (.cons ((y2.kt q3.t).kt q4.t) .nil))
    rintro σ J ⟨l3, x3, rfl, kJ3, nl3, hl3, pO3⟩
    have e3 : x3.length = 7 := pO3.length
    refine ⟨fun σ J => ∃ l xs, σ = [some (.ref bx), some (.ref E), some (.ref R), some (.int (i : Int)), some (.int mm), some (.ref l), none, none, none, none, none, none] ∧ Kp No G4 J ∧ G4 l = none ∧ J l = some (.lst xs) ∧ Paired (OdAt J) xs (odds mm), ?_, ?_⟩
    · refine ⟨_, rfl, .inl ⟨rfl, _, SqL.of hl3⟩, sz 2 (by decide), fun b0 m0' => ⟨sz 2 (by decide), fun b4 m4 => ⟨sz 2 (by decide), fun b1 m1 => ⟨sz 3 (by decide), fun b5 m5 => ⟨sz 2 (by decide), fun b2 m2 => ⟨sz 2 (by decide), fun b3 m3 => ?_⟩⟩⟩⟩⟩⟩
      have y1 := OdAt.mk (e := .deal 1 [.drop 0, .drop 32]) (er := .deal 1) ⟨b5, .ref b1, rfl, upd_same, b1, [.ref b0, .ref b4], rfl, (upd_ne (upd_none m5).1.symm).trans upd_same, .cons ⟨b0, rfl, ?_⟩ (.cons ⟨b4, rfl, ?_⟩ .nil), by decide⟩ m2 m3
      rotate_left
      · rw [upd_ne (upd_none (upd_none (upd_none m5).2).2).1.symm, upd_ne (upd_none (upd_none m1).2).1.symm, upd_ne (upd_none m4).1.symm, upd_same]
        rfl
      · rw [upd_ne (upd_none (upd_none m5).2).1.symm, upd_ne (upd_none m1).1.symm, upd_same]
        rfl
      have q1 : Kp No _ _ := (((((Kp.new m0').andN m4).andN m1).andN m5).andN m2).andN (o' := .tup [.ref b5, .ref b2]) m3
      have h3 := q1.t.lst hl3 fun z => z
      have q2 : Kp (fun b => b = l3) _ _ := Kp.updL (o' := .lst (x3 ++ [.ref b3])) h3 rfl
      refine ⟨l3, x3, .ref b3, rfl, rfl, h3, szL (by omega), l3, _, rfl, ?_, nl3, upd_same, ?_⟩
      · exact kp_fresh ((((kJ3.trans q1 fun _ z => False.elim z).sub (F' := fun b => b = l3) fun _ z => False.elim z)).trans q2 fun _ z => .inl z) fun b z => by rw [z]; exact nl3
      · exact paired_app (pO3.mono fun _ _ z => (z.kt q1.t).kt q2.t) (.cons (y1.kt q2.t) .nil)
    rintro σ J ⟨ls, xo, rfl, kJ, nls, hls, pO⟩
    have eo : xo.length = 8 := pO.length
    have KJ : Kp (bF bx bi) H J := (k1.trans k4 fun _ z => False.elim z).trans kJ fun _ z => False.elim z
    have BJ : BoxAt J bx bi := B1.no (k4.trans kJ fun _ z => False.elim z)
    refine ⟨_, rfl, bx, bi, 11, rfl, BJ, by decide, by decide, fun kk G5 a5 b5 B5 k5 => ⟨_, rfl, _, _, rfl, rfl, ⟨by decide, by decide, by decide⟩, sz 2 (by decide), fun p6 n6 => ⟨_, rfl, bx, bi, 2, rfl, B5.new n6, by decide, by decide, fun r6 G6 a6 b6 B6 k6 => ?_⟩⟩⟩
    obtain ⟨m6, hm6, s6, e6⟩ := pickL (K := K) V.int [3, 10 ^ (18 : Int).toNat] B5 n6 k6 a6 b6
    have g6 : 3 ≤ m6 ∧ m6 ≤ 1000000000000000000 := by
      have e8 : (10 : Int) ^ (18 : Int).toNat = 1000000000000000000 := by decide
      rw [e8] at hm6
      simp only [List.mem_cons, List.not_mem_nil, or_false] at hm6
      omega
    refine ⟨p6, _, r6, .int m6, rfl, rfl, s6, e6, bx, bi, m6, rfl, B6, by omega, big m6 (by omega) (by omega), fun fr G7 a7 b7 B7 k7 => ⟨_, _, rfl, rfl, _, _, rfl, ?_⟩⟩
    have KJ7 : Kp (bF bx bi) J G7 := ((k5.andN n6).trans k6 fun _ z => .inl z).trans k7 fun _ z => .inl z
    have K7 : Kp (bF bx bi) H G7 := KJ.trans KJ7 fun _ z => .inl z
    have hE7 := K7.t.lst hE hEb
    have hR7 := K7.t.lst hR hRb
    have lsb : ¬ bF bx bi ls := fun z => by
      obtain ⟨ns, st, g1, g2, _⟩ := B1.ex
      rcases z with z | z
      · rw [z] at nls; rw [k4.t.lst g1 fun z => z] at nls; cases nls
      · rw [z] at nls; rw [k4.t.lst g2 fun z => z] at nls; cases nls
    have hls7 := KJ7.t.lst hls lsb
    have pE7 : Paired (EnAt G7) xs es := pE.mono fun _ _ z => z.kt K7.t
    have pR7 : Paired (RdAt G7) ys rs := pR.mono fun _ _ z => z.kt K7.t
    have pO7 : Paired (OdAt G7) xo (odds mm) := pO.mono fun _ _ z => z.kt KJ7.t
    refine ⟨_, rfl, _, _, rfl, rfl, _, rfl, ite2 (fun z8 => ?_) (fun z8 => ?_)⟩
    · -- an entry that can't be
      have z8' : kk < 8 := by simpa using z8
      obtain ⟨x, hx1, ao, ev, dd, evo, hao, hev, hdd⟩ := paired_at pO7 (List.getElem?_eq_getElem (show kk.toNat < xo.length by omega))
      have hxm : x ∈ odds mm := List.mem_of_getElem? hx1
      have hat : atI xo kk = some (.ref ao) := by
        unfold atI
        rw [ixN_in a5 (by omega)]
        show xo[kk.toNat]? = _
        rw [List.getElem?_eq_getElem (show kk.toNat < xo.length by omega), evo]
      refine ⟨_, rfl, _, rfl, _, rfl, E, xs, rfl, SqL.of hE7, fun p1 n1 => ?_⟩
      rw [cut_drop xs i (by omega)]
      refine ⟨sz 0 (by decide), fun u nu => ⟨sz 1 (by decide), fun l1 nl1 => ?_⟩⟩
      have q1 : Kp No (upd G7 p1 (.lst (xs.drop i))) _ := (Kp.new nu).andN (o' := .lst [.ref u]) nl1
      refine ⟨p1, l1, _, _, rfl, rfl, q1.t.lst upd_same fun z => z, upd_same, sz _ ?_, fun b nb => ⟨Nat.zero_le _, fun e0 ne0 => ⟨sz 2 (by decide), fun L nL => ?_⟩⟩⟩
      · rw [List.length_drop]
        simp only [List.length_cons, List.length_nil]
        omega
      have q07 : Kp No G7 (upd G7 p1 (.lst (xs.drop i))) := Kp.new n1
      have q2 : Kp No _ _ := (Kp.new (o := .lst (xs.drop i ++ [.ref u])) nb).andN (o' := .lst []) ne0
      have q72 : Kp No G7 _ := (q07.trans q1 fun _ z => False.elim z).trans q2 fun _ z => False.elim z
      have hu2 : (upd (upd (upd (upd (upd G7 p1 (.lst (xs.drop i))) u (.tup [])) l1 (.lst [.ref u])) b (.lst (xs.drop i ++ [.ref u]))) e0 (.lst [])) u = some (.tup []) := q2.t.tup (by rw [upd_ne (upd_none nl1).1.symm, upd_same])
      have hb2 : (upd (upd (upd (upd (upd G7 p1 (.lst (xs.drop i))) u (.tup [])) l1 (.lst [.ref u])) b (.lst (xs.drop i ++ [.ref u]))) e0 (.lst [])) b = some (.lst (xs.drop i ++ [.ref u])) := by rw [upd_ne (upd_none ne0).1.symm, upd_same]
      have he2 := upd_same (H := upd (upd (upd (upd G7 p1 (.lst (xs.drop i))) u (.tup [])) l1 (.lst [.ref u])) b (.lst (xs.drop i ++ [.ref u]))) (a := e0) (o := .lst [])
      have Bq := B7.no q72
      generalize upd (upd (upd (upd (upd G7 p1 (.lst (xs.drop i))) u (.tup [])) l1 (.lst [.ref u])) b (.lst (xs.drop i ++ [.ref u]))) e0 (.lst []) = G72 at q72 hu2 hb2 he2 Bq nL ⊢
      refine ⟨_, rfl, bx, bi, 2, rfl, Bq.new nL, by decide, by decide, fun r8 G8 a8 b8 B8 k8 => ?_⟩
      obtain ⟨bh, hbh, sL, eL⟩ := pickL (K := K) V.ref [b, e0] Bq nL k8 a8 b8
      have k78 : Kp (bF bx bi) G7 G8 := ((q72.sub fun _ z => False.elim z).andN nL).trans k8 fun _ z => .inl z
      have k28 : Kp (bF bx bi) G72 G8 := (Kp.new nL).trans k8 fun _ z => .inl z
      have nbq : ∀ {a xs2}, G72 a = some (.lst xs2) → a = b ∨ a = e0 → ¬ bF bx bi a := fun {a xs2} e y z => by
        obtain ⟨ns, st, g1, g2, _⟩ := B7.ex
        have nn : G7 a = none := by
          rcases y with y | y
          · rw [y]; exact q07.free (q1.free nb fun z => False.elim z) fun z => False.elim z
          · rw [y]; exact q07.free (q1.free (upd_none ne0).2 fun z => False.elim z) fun z => False.elim z
        rcases z with z | z
        · rw [z, g1] at nn; cases nn
        · rw [z, g2] at nn; cases nn
      obtain ⟨zs, fs, hz8, pz8, hfl⟩ : ∃ zs fs, G8 bh = some (.lst zs) ∧ Paired (EnAt G8) zs fs ∧ fs.length ≤ 41 := by
        simp only [List.mem_cons, List.not_mem_nil, or_false] at hbh
        rcases hbh with z | z
        · refine ⟨xs.drop i ++ [.ref u], es.drop i ++ [.odd], by rw [z]; exact k28.t.lst hb2 (nbq hb2 (.inl rfl)), paired_app ((paired_drop pE7 i).mono fun _ _ y => y.kt k78.t) (.cons (show EnAt G8 (.ref u) .odd from ⟨u, [], rfl, k28.t.tup hu2, .inl rfl⟩) .nil), ?_⟩
          rw [List.length_append, List.length_drop]
          simp only [List.length_cons, List.length_nil]
          omega
        · exact ⟨[], [], by rw [z]; exact k28.t.lst he2 (nbq he2 (.inr rfl)), .nil, Nat.zero_le _⟩
      refine ⟨L, _, r8, .ref bh, rfl, rfl, sL, eL, ?_⟩
      have K8 : Kp (bF bx bi) H G8 := K7.trans k78 fun _ z => .inl z
      have hE8 := K8.t.lst hE hEb
      have hR8 := K8.t.lst hR hRb
      have hls8 := k78.t.lst hls7 lsb
      refine ⟨_, rfl, _, rfl, _, rfl, E, xs, rfl, SqL.of hE8, fun q1 nq1 => ?_⟩
      rw [cut_take xs i (by omega)]
      have j1 : Kp No G8 (upd G8 q1 (.lst (xs.take i))) := Kp.new nq1
      refine ⟨_, rfl, _, rfl, ls, _, kk, .ref ao, rfl, rfl, SqL.of (j1.t.lst hls8 fun z => z), hat, ao, _, 0, ev, rfl, rfl, SqT.of (j1.t.tup (k78.t.tup hao)), rfl, sz 1 (by decide), fun q2 nq2 => ?_⟩
      have j2 : Kp No G8 _ := j1.andN (o' := .lst [ev]) nq2
      refine ⟨q1, q2, _, _, rfl, rfl, (upd_ne (upd_none nq2).1.symm).trans upd_same, upd_same, sz _ ?_, fun q3 nq3 => ?_⟩
      · rw [List.length_take]
        simp only [List.length_cons, List.length_nil]
        omega
      have j3 : Kp No G8 _ := j2.andN (o' := .lst (xs.take i ++ [ev])) nq3
      refine ⟨_, rfl, q3, bh, _, _, rfl, rfl, upd_same, j3.t.lst hz8 fun z => z, sz _ ?_, fun q4 nq4 => ?_⟩
      · rw [List.length_append, List.length_take, pz8.length]
        simp only [List.length_cons, List.length_nil]
        omega
      have j4 : Kp No G8 _ := j3.andN (o' := .lst (xs.take i ++ [ev] ++ zs)) nq4
      refine ⟨_, rfl, sz 4 (by decide), fun q5 nq5 => ⟨sz 1 (by decide), fun q6 nq6 => ?_⟩⟩
      have j6 : Kp No _ _ := (Kp.new (o := .tup [.int 9, .int 0, .int 99, .int 0]) nq5).andN (o' := .lst [.ref q5]) nq6
      refine ⟨R, q6, _, _, rfl, rfl, (j4.trans j6 fun _ z => False.elim z).t.lst hR8 fun z => z, upd_same, sz _ ?_, fun q7 nq7 => ?_⟩
      · rw [hyl]
        simp only [List.length_cons, List.length_nil]
        omega
      have j7 : Kp No _ _ := j6.andN (o' := .lst (ys ++ [.ref q5])) nq7
      have j47 : Kp No G8 _ := j4.trans j7 fun _ z => False.elim z
      refine ⟨_, rfl, _, rfl, ls, _, kk, .ref ao, rfl, rfl, SqL.of (j47.t.lst hls8 fun z => z), hat, ao, _, 1, .ref dd, rfl, rfl, SqT.of (j47.t.tup (k78.t.tup hao)), rfl, sz 3 (by decide), fun Pp nP => ?_⟩
      have j8 : Kp No _ _ := j7.andN (o' := .tup [.ref q4, .ref q7, .ref dd]) nP
      have j : Kp No G8 _ := j4.trans j8 fun _ z => False.elim z
      have jl : Kp No _ _ := Kp.new (o := .tup [.ref q4, .ref q7, .ref dd]) nP
      refine k _ Pp q4 q7 dd _ ((es.take i ++ [x.1]) ++ fs) _ (rs ++ [⟨9, 0, 99, some 0⟩]) x.2 (B8.no j) (K8.trans j fun _ z => False.elim z) upd_same (j8.t.lst upd_same fun z => z) ?_ ?_ (jl.t.lst upd_same fun z => z) ?_ ?_ (j.t.tup (k78.t.tup hdd)) (new_nb B8 (j3.free nq4 fun z => False.elim z)) (new_nb B8 (j4.free (j6.free nq7 fun z => False.elim z) fun z => False.elim z)) (.inl ?_)
      · exact paired_app (paired_app ((paired_take pE7 i).mono fun _ _ y => (y.kt k78.t).kt j.t) (.cons ((hev.kt k78.t).kt j.t) .nil)) (pz8.mono fun _ _ y => y.kt j.t)
      · rw [List.length_append, List.length_append, List.length_take]
        simp only [List.length_cons, List.length_nil]
        omega
      · refine paired_app (pR7.mono fun _ _ y => (y.kt k78.t).kt j.t) (.cons ⟨q5, rfl, ?_⟩ .nil)
        refine jl.t.tup ?_
        rw [upd_ne (upd_none (upd_none nq7).2).1.symm, upd_ne (upd_none nq6).1.symm, upd_same]
        rfl
      · rw [List.length_append]
        simp only [List.length_cons, List.length_nil]
        omega
      · rw [List.append_assoc, badE_app (badE_pre hbE i)]
        simp only [List.cons_append, List.nil_append, badE, hm, odds_bad m0 x hxm]
    · refine ⟨_, rfl, rfl, _, rfl, ite2 (fun z10 => ?_) (fun z10 => ?_)⟩
      · -- a tick that is too late
        refine ⟨_, rfl, _, _, rfl, rfl, ⟨by decide, by decide, by decide⟩, _, rfl, _, _, rfl, rfl, sz 2 (by decide), fun q1 nq1 => ⟨sz 1 (by decide), fun q2 nq2 => ?_⟩⟩
        have e6 : (10 : Int) ^ (6 : Int).toNat + (1 + fr) = 1000001 + fr := by
          have : (10 : Int) ^ (6 : Int).toNat = 1000000 := by decide
          rw [this]
          omega
        have j2 : Kp No G7 _ := (Kp.new nq1).andN (o' := .lst [.ref q1]) nq2
        refine ⟨E, q2, _, _, rfl, rfl, j2.t.lst hE7 fun z => z, upd_same, sz _ ?_, fun q4 nq4 => ?_⟩
        · rw [hxl]
          simp only [List.length_cons, List.length_nil]
          omega
        have j4 : Kp No G7 _ := j2.andN (o' := .lst (xs ++ [.ref q1])) nq4
        refine ⟨_, rfl, sz 4 (by decide), fun q5 nq5 => ⟨sz 1 (by decide), fun q6 nq6 => ?_⟩⟩
        have j6 : Kp No _ _ := (Kp.new (o := .tup [.int 9, .int 0, .int 99, .int 0]) nq5).andN (o' := .lst [.ref q5]) nq6
        refine ⟨R, q6, _, _, rfl, rfl, (j4.trans j6 fun _ z => False.elim z).t.lst hR7 fun z => z, upd_same, sz _ ?_, fun q7 nq7 => ?_⟩
        · rw [hyl]
          simp only [List.length_cons, List.length_nil]
          omega
        have j7 : Kp No _ _ := j6.andN (o' := .lst (ys ++ [.ref q5])) nq7
        have j47 : Kp No G7 _ := j4.trans j7 fun _ z => False.elim z
        refine ⟨sz 2 (by decide), fun dd ndd => ⟨sz 3 (by decide), fun Pp nP => ?_⟩⟩
        have jd : Kp No _ _ := (Kp.new (o := .tup [.str "BadEntry", .int 0]) ndd).andN (o' := .tup [.ref q4, .ref q7, .ref dd]) nP
        have j8 : Kp No _ _ := j7.trans jd fun _ z => False.elim z
        have j : Kp No G7 _ := j4.trans j8 fun _ z => False.elim z
        refine k _ Pp q4 q7 dd _ (es ++ [.tick (1000001 + fr)]) _ (rs ++ [⟨9, 0, 99, some 0⟩]) .entry (B7.no j) (K7.trans j fun _ z => False.elim z) upd_same (j8.t.lst upd_same fun z => z) ?_ ?_ (jd.t.lst upd_same fun z => z) ?_ ?_ ?_ (new_nb B7 (j2.free nq4 fun z => False.elim z)) (new_nb B7 (j4.free (j6.free nq7 fun z => False.elim z) fun z => False.elim z)) (.inl ?_)
        · refine paired_app (pE7.mono fun _ _ y => y.kt j.t) (.cons ⟨q1, rfl, ?_⟩ .nil)
          refine j8.t.tup ?_
          rw [upd_ne (upd_none (upd_none nq4).2).1.symm, upd_ne (upd_none nq2).1.symm, upd_same, ← e6]
        · rw [List.length_append]
          simp only [List.length_cons, List.length_nil]
          omega
        · refine paired_app (pR7.mono fun _ _ y => y.kt j.t) (.cons ⟨q5, rfl, ?_⟩ .nil)
          refine jd.t.tup ?_
          rw [upd_ne (upd_none (upd_none nq7).2).1.symm, upd_ne (upd_none nq6).1.symm, upd_same]
          rfl
        · rw [List.length_append]
          simp only [List.length_cons, List.length_nil]
          omega
        · rw [upd_ne (upd_none nP).1.symm, upd_same]
          rfl
        · rw [badE_app hbE]
          have : inB ((lastT Tb.new es).mom + 1) 1000000 (1000001 + fr) = false := by
            unfold inB
            rw [decide_eq_false (show ¬ 1000001 + fr ≤ 1000000 by omega), Bool.and_false]
          simp only [badE, En.bad, this]
          rfl
      · -- a reading that can't be
        have z8' : ¬ kk < 8 := by simpa using z8
        have z10' : ¬ kk = 10 := by simpa using z10
        refine ⟨_, rfl, _, rfl, R, ys, rfl, .inl (SqL.of hR7), _, _, rfl, rfl, bx, bi, _, rfl, B7, by omega, big _ (by omega) (by omega), fun pl_ G8 a8 b8 B8 k8 => ?_⟩
        obtain ⟨pl, rfl⟩ : ∃ i : Nat, pl_ = (i : Int) := ⟨pl_.toNat, by omega⟩
        have K8 : Kp (bF bx bi) H G8 := K7.trans k8 fun _ z => .inl z
        have hE8 := K8.t.lst hE hEb
        have hR8 := K8.t.lst hR hRb
        refine ⟨sz 4 (by decide), fun a1 n1 => ⟨sz 2 (by decide), fun a2 n2 => ⟨sz 2 (by decide), fun a3 n3 => ⟨sz 4 (by decide), fun c1 m1 => ⟨sz 2 (by decide), fun c2 m2 => ⟨sz 2 (by decide), fun c3 m3 => ⟨sz 2 (by decide), fun L nL => ?_⟩⟩⟩⟩⟩⟩⟩
        have q0 : Kp No G8 _ := ((Kp.new n1).andN n2).andN (o' := .tup [.ref a1, .ref a2]) n3
        have q1 : Kp No _ _ := ((Kp.new m1).andN m2).andN (o' := .tup [.ref c1, .ref c2]) m3
        have q2 : Kp No _ _ := Kp.new (o := .lst [.ref a3, .ref c3]) nL
        have q02 : Kp No G8 _ := (q0.trans q1 fun _ z => False.elim z).trans q2 fun _ z => False.elim z
        have q12 := q1.trans q2 fun _ z => False.elim z
        have ha3 := q12.t.tup (upd_same (a := a3))
        have ha2 := q12.t.tup ((upd_ne (upd_none n3).1.symm).trans (upd_same (a := a2)))
        have ha1 := q12.t.tup (((upd_ne (upd_none (upd_none n3).2).1.symm).trans (upd_ne (upd_none n2).1.symm)).trans (upd_same (a := a1)))
        have hc3 := q2.t.tup (upd_same (a := c3))
        have hc2 := q2.t.tup ((upd_ne (upd_none m3).1.symm).trans (upd_same (a := c2)))
        have hc1 := q2.t.tup (((upd_ne (upd_none (upd_none m3).2).1.symm).trans (upd_ne (upd_none m2).1.symm)).trans (upd_same (a := c1)))
        have hL9 := upd_same (H := upd (upd (upd (upd (upd (upd G8 a1 (.tup [.int 4, .int 0, .int 99, .int 0])) a2 (.tup [.str "BadHand", .int 0])) a3 (.tup [.ref a1, .ref a2])) c1 (.tup [.int 0, .int 0, .int 32, .int 0])) c2 (.tup [.str "BadKey", .int 0])) c3 (.tup [.ref c1, .ref c2])) (a := L) (o := .lst [.ref a3, .ref c3])
        generalize upd (upd (upd (upd (upd (upd (upd G8 a1 (.tup [.int 4, .int 0, .int 99, .int 0])) a2 (.tup [.str "BadHand", .int 0])) a3 (.tup [.ref a1, .ref a2])) c1 (.tup [.int 0, .int 0, .int 32, .int 0])) c2 (.tup [.str "BadKey", .int 0])) c3 (.tup [.ref c1, .ref c2])) L (.lst [.ref a3, .ref c3]) = G9 at q02 ha1 ha2 ha3 hc1 hc2 hc3 hL9 ⊢
        obtain ⟨a, rv, dd, rd, er, hat, ha, hrv, hdd, hbad⟩ : ∃ (a rv dd : Addr) (rd : Rd) (er : Er), atI ([.ref a3, .ref c3] : List V) (kk - 8) = some (.ref a) ∧ G9 a = some (.tup [.ref rv, .ref dd]) ∧ G9 rv = some (.tup rd.vs) ∧ G9 dd = some (.tup [.str er.word, .int er.num]) ∧ rd.bad = some er := by
          rcases (show kk = 8 ∨ kk = 9 by omega) with rfl | rfl
          · exact ⟨a3, a1, a2, ⟨4, 0, 99, some 0⟩, .hand, rfl, ha3, ha1, ha2, rfl⟩
          · exact ⟨c3, c1, c2, ⟨0, 0, 32, some 0⟩, .key, rfl, hc3, hc1, hc2, rfl⟩
        refine ⟨_, rfl, _, _, rfl, rfl, L, _, kk - 8, .ref a, rfl, rfl, SqL.of hL9, hat, ?_⟩
        have hR9 := q02.t.lst hR8 fun z => z
        refine ⟨_, rfl, _, rfl, _, rfl, _, rfl, R, ys, rfl, SqL.of hR9, fun p1 np1 => ?_⟩
        rw [cut_take ys pl (by omega)]
        have j1 : Kp No G9 (upd G9 p1 (.lst (ys.take pl))) := Kp.new np1
        refine ⟨_, rfl, a, _, 0, .ref rv, rfl, rfl, SqT.of (j1.t.tup ha), rfl, sz 1 (by decide), fun p2 np2 => ?_⟩
        have j2 : Kp No G9 _ := j1.andN (o' := .lst [.ref rv]) np2
        refine ⟨p1, p2, _, _, rfl, rfl, (upd_ne (upd_none np2).1.symm).trans upd_same, upd_same, sz _ ?_, fun p3 np3 => ?_⟩
        · rw [List.length_take]
          simp only [List.length_cons, List.length_nil]
          omega
        have j3 : Kp No G9 _ := j2.andN (o' := .lst (ys.take pl ++ [.ref rv])) np3
        refine ⟨_, rfl, _, rfl, _, rfl, R, ys, rfl, SqL.of (j3.t.lst hR9 fun z => z), fun p4 np4 => ?_⟩
        rw [cut_drop ys pl (by omega)]
        have j4 : Kp No G9 _ := j3.andN (o' := .lst (ys.drop pl)) np4
        refine ⟨p3, p4, _, _, rfl, rfl, (upd_ne (upd_none np4).1.symm).trans upd_same, upd_same, sz _ ?_, fun p5 np5 => ?_⟩
        · rw [List.length_append, List.length_take, List.length_drop]
          simp only [List.length_cons, List.length_nil]
          omega
        have j5 : Kp No G9 _ := j4.andN (o' := .lst (ys.take pl ++ [.ref rv] ++ ys.drop pl)) np5
        refine ⟨1, rfl, 1, rfl, sz 4 (by decide), fun p6 np6 => ⟨sz 1 (by decide), fun p7 np7 => ?_⟩⟩
        have j7 : Kp No _ _ := (Kp.new (o := .tup [.int (-1), .int 0, .int (-1), .int 0]) np6).andN (o' := .lst [.ref p6]) np7
        refine ⟨p5, p7, _, _, rfl, rfl, j7.t.lst upd_same fun z => z, upd_same, sz _ ?_, fun p8 np8 => ?_⟩
        · rw [List.length_append, List.length_append, List.length_take, List.length_drop]
          simp only [List.length_cons, List.length_nil]
          omega
        have j8 : Kp No _ _ := j7.andN (o' := .lst (ys.take pl ++ [.ref rv] ++ ys.drop pl ++ [.ref p6])) np8
        have j58 : Kp No G9 _ := j5.trans j8 fun _ z => False.elim z
        refine ⟨_, rfl, a, _, 1, .ref dd, rfl, rfl, SqT.of (j58.t.tup ha), rfl, sz 3 (by decide), fun Pp nP => ?_⟩
        have jP : Kp No _ _ := Kp.new (o := .tup [.ref E, .ref p8, .ref dd]) nP
        have j : Kp No G9 _ := j58.trans jP fun _ z => False.elim z
        have jj : Kp No G8 _ := q02.trans j fun _ z => False.elim z
        have k7j := k8.trans jj (fun _ z => False.elim z)
        refine k _ Pp E p8 dd xs es _ (rs.take pl ++ [rd] ++ rs.drop pl ++ [⟨-1, 0, -1, some 0⟩]) er (B8.no jj) (K8.trans jj fun _ z => False.elim z) upd_same (jj.t.lst hE8 fun z => z) (pE7.mono fun _ _ y => y.kt k7j.t) (by omega) (jP.t.lst upd_same fun z => z) ?_ ?_ (j.t.tup hdd) hEb (new_nb B8 (q02.free (j5.free (j7.free np8 fun z => False.elim z) fun z => False.elim z) fun z => False.elim z)) (.inr ⟨hbE, ?_⟩)
        · refine paired_app (paired_app (paired_app ((paired_take pR7 pl).mono fun _ _ y => y.kt k7j.t) (.cons ⟨rv, rfl, j.t.tup hrv⟩ .nil)) ((paired_drop pR7 pl).mono fun _ _ y => y.kt k7j.t)) (.cons ⟨p6, rfl, ?_⟩ .nil)
          refine jP.t.tup ?_
          rw [upd_ne (upd_none (upd_none np8).2).1.symm, upd_ne (upd_none np7).1.symm, upd_same]
          rfl
        · rw [List.length_append, List.length_append, List.length_append, List.length_take, List.length_drop]
          simp only [List.length_cons, List.length_nil]
          omega
        · rw [List.append_assoc, List.append_assoc, badR_app (badR_pre hbR pl)]
          simp only [List.cons_append, List.nil_append, badR, hbad]
end
end S16

set_option Elab.async false
set_option linter.all false
set_option maxRecDepth 100000
set_option maxHeartbeats 4000000
namespace S16
open PySem PySem.Spec PyProof.Rows L2 K5 SupX
section
variable {P : Program} {w : World} {K : PySem.W.Frag} {mg : Str → Option Value} {base : Heap} {A : Ad}
/-! ### alike -/
theorem scalike : FnScope ["_law_found", "_law_due_here", "_law_k"] ["_law_found", "_law_due_here"] (defScope s_alike) := ⟨rfl, rfl, rfl, by decide +kernel, rfl, by decide +kernel, by decide +kernel⟩
def spAlike (n : Nat) : Sp := fun vs H Q _ => ∃ x y, vs = [x, y] ∧ Al H n x y ∧ Q (.bl true) H
theorem no_fn {CX : CXT} {f : Addr} {fd : FuncData} {ps : List Str} {k : Nat} : FnOk P w K mg base CX k f fd ps (fun _ _ _ _ => False) := ⟨fun _ _ _ _ h => h.elim, fun _ _ _ _ _ _ _ _ _ _ _ _ _ h => h.elim⟩
theorem sp_len {vs : List V} {H : Hp} {Q : VK} {E : XK} {n : Nat} (h : spAlike n vs H Q E) : vs.length = 2 := by
  obtain ⟨x, y, rfl, _⟩ := h
  rfl
theorem ok_alike (T : Txt K mg A) : ∃ fd, Binds K fd ["_law_found", "_law_due_here"] [] ∧ ∀ n, FnOk P w K mg base CX0 (n + 1) (A.d 43) fd ["_law_found", "_law_due_here"] (spAlike n) := by
  obtain ⟨fd, F⟩ := T.alike.fn
  have balike : Binds K fd ["_law_found", "_law_due_here"] [] := F.binds fun _ _ _ _ _ _ us hl => match us, hl with | [_, _], _ => rfl
  refine ⟨fd, balike, fun n => ?_⟩
  induction n with
  | zero => exact ⟨fun vs H Q E h => sp_len h, fun _ _ _ _ _ _ _ _ _ _ _ _ _ h => by obtain ⟨x, y, _, z, _⟩ := h; exact z.elim⟩
  | succ n Galike =>
    refine F.ok scalike (fun vs H Q E h => sp_len h) (fun cdv Ar outer s H vs Q E hr h => ?_)
    obtain ⟨x, y, rfl, al, k⟩ := h
    refine ⟨_, (pss_cons (ps_if (pt_cmp (pc_isN (pv 1)))
        (pss_one (ps_ret (pe_cmp (pc_isN (pv 0)))))
        pss_nil)
      (pss_cons (ps_if (pt_val (pe_callB call_isi (by rfl) T.isinstance (by decide +kernel) (pa_cons (pv 1) (pa_cons (pe_bltn (v := .ty "bool") (by rfl) T.bool (by decide +kernel) rfl) pa_nil))))
        (pss_one (ps_ret (pe_and (pe_callB call_isi (by rfl) T.isinstance (by decide +kernel) (pa_cons (pv 0) (pa_cons (pe_bltn (v := .ty "bool") (by rfl) T.bool (by decide +kernel) rfl) pa_nil))) (pe_one (pe_cmpR op_eq (pv 0) (pv 1) (nomark _))))))
        pss_nil)
      (pss_cons (ps_if (pt_val (pe_callB call_isi (by rfl) T.isinstance (by decide +kernel) (pa_cons (pv 1) (pa_cons (pe_bltn (v := .ty "int") (by rfl) T.int (by decide +kernel) rfl) pa_nil))))
        (pss_one (ps_ret (pe_and (pe_callB call_isi (by rfl) T.isinstance (by decide +kernel) (pa_cons (pv 0) (pa_cons (pe_bltn (v := .ty "int") (by rfl) T.int (by decide +kernel) rfl) pa_nil))) (pe_and (pe_not (pe_callB call_isi (by rfl) T.isinstance (by decide +kernel) (pa_cons (pv 0) (pa_cons (pe_bltn (v := .ty "bool") (by rfl) T.bool (by decide +kernel) rfl) pa_nil)))) (pe_one (pe_cmpR op_eq (pv 0) (pv 1) (nomark _)))))))
        pss_nil)
      (pss_cons (ps_if (pt_val (pe_callB call_isi (by rfl) T.isinstance (by decide +kernel) (pa_cons (pv 1) (pa_cons (pe_bltn (v := .ty "str") (by rfl) T.str (by decide +kernel) rfl) pa_nil))))
        (pss_one (ps_ret (pe_and (pe_callB call_isi (by rfl) T.isinstance (by decide +kernel) (pa_cons (pv 0) (pa_cons (pe_bltn (v := .ty "str") (by rfl) T.str (by decide +kernel) rfl) pa_nil))) (pe_one (pe_cmpR op_eq (pv 0) (pv 1) (nomark _))))))
        pss_nil)
      (pss_cons (ps_if (PW.pt (pw_or (pt_cmpR op_ne (pe_callB call_isi (by rfl) T.isinstance (by decide +kernel) (pa_cons (pv 1) (pa_cons (pe_bltn (v := .ty "tuple") (by rfl) T.tuple (by decide +kernel) rfl) pa_nil))) (pe_callB call_isi (by rfl) T.isinstance (by decide +kernel) (pa_cons (pv 0) (pa_cons (pe_bltn (v := .ty "tuple") (by rfl) T.tuple (by decide +kernel) rfl) pa_nil))) (nomark _)) (pw_or1 (pt_cmpR op_ne (pe_callB call_isi (by rfl) T.isinstance (by decide +kernel) (pa_cons (pv 1) (pa_cons (pe_bltn (v := .ty "list") (by rfl) T.list (by decide +kernel) rfl) pa_nil))) (pe_callB call_isi (by rfl) T.isinstance (by decide +kernel) (pa_cons (pv 0) (pa_cons (pe_bltn (v := .ty "list") (by rfl) T.list (by decide +kernel) rfl) pa_nil))) (nomark _)))))
        (pss_one (ps_ret pe_bl))
        pss_nil)
      (pss_cons (ps_if (pt_cmpR op_ne (pe_callB call_len_seq (by rfl) T.len PySem.boot_len (pa_cons (pv 0) pa_nil)) (pe_callB call_len_seq (by rfl) T.len PySem.boot_len (pa_cons (pv 1) pa_nil)) (nomark _))
        (pss_one (ps_ret pe_bl))
        pss_nil)
      (pss_cons (ps_for PassesOwn.never rfl (pi_range1 (by rfl) T.range (pa_cons (pe_callB call_len_seq (by rfl) T.len PySem.boot_len (pa_cons (pv 1) pa_nil)) pa_nil)) (pg_name (i := 2) scalike.nd rfl (Or.inl rfl))
        (pss_one (ps_if (pt_not (pt_val (pe_call Galike (hr.mono (by first | decide | omega)) rfl T.alike.at_ T.alike.kp balike .nil pass0 (pa_cons (pe_ix ix_seq (pv 0) (pv 2) (fun _ _ => rfl)) (pa_cons (pe_ix ix_seq (pv 1) (pv 2) (fun _ _ => rfl)) pa_nil)))))
          (pss_one (ps_ret pe_bl))
          pss_nil)))
      (pss_one (ps_ret pe_bl))))))))), ?_⟩
    have ki : ∀ {a b : String} {r : Bool}, kitB a b = some r → PySem.W.kitOne K (.type a) (.type b) = some r := fun h => h
    rcases al with ⟨lf, rfl⟩ | ⟨a, b, xs, ys, rfl, rfl, hab, hl, hyl, hal⟩
    · -- a leaf
      cases x with
      | non => exact ⟨_, rfl, _, rfl, iteT ⟨_, rfl, k⟩⟩
      | bl v =>
        refine ⟨_, rfl, _, rfl, iteF ⟨_, rfl, _, _, _, _, true, rfl, .ty "bool", .base (.bl v), by rfl, _, rfl, iteT ⟨_, rfl, _, _, _, _, true, rfl, .ty "bool", .base (.bl v), by rfl, true, rfl, iteT ⟨_, rfl, _, rfl, rfl, ?_⟩⟩⟩⟩
        rw [decide_eq_true rfl]
        exact k
      | int v =>
        refine ⟨_, rfl, _, rfl, iteF ⟨_, rfl, _, _, _, _, false, rfl, .ty "bool", .base (.int v), by rfl, _, rfl, iteF ⟨_, rfl, _, _, _, _, true, rfl, .ty "int", .base (.int v), by rfl, _, rfl, iteT ?_⟩⟩⟩
        refine ⟨_, rfl, _, _, _, _, true, rfl, .ty "int", .base (.int v), by rfl, true, rfl, iteT ⟨_, rfl, _, _, _, _, false, rfl, .ty "bool", .base (.int v), by rfl, false, rfl, true, rfl, iteT ⟨_, rfl, _, rfl, rfl, ?_⟩⟩⟩
        rw [decide_eq_true rfl]
        exact k
      | str v =>
        refine ⟨_, rfl, _, rfl, iteF ⟨_, rfl, _, _, _, _, false, rfl, .ty "bool", .base (.str v), by rfl, _, rfl, iteF ⟨_, rfl, _, _, _, _, false, rfl, .ty "int", .base (.str v), by rfl, _, rfl, iteF ⟨_, rfl, _, _, _, _, true, rfl, .ty "str", .base (.str v), by rfl, _, rfl, iteT ?_⟩⟩⟩⟩
        refine ⟨_, rfl, _, _, _, _, true, rfl, .ty "str", .base (.str v), by rfl, true, rfl, iteT ⟨_, rfl, _, rfl, rfl, ?_⟩⟩
        rw [decide_eq_true rfl]
        exact k
      | byt _ => cases lf
      | flt _ => cases lf
      | ref _ => cases lf
      | ty _ => cases lf
    · -- tuples or lists
      have hbig : (ys.length : Int) < 2 ^ 62 := hyl
      rcases hab with ⟨ha, hb⟩ | ⟨ha, hb⟩
      · have ta : TyX K H (.ref a) (.type "tuple") := .base (.tup ha)
        have tb : TyX K H (.ref b) (.type "tuple") := .base (.tup hb)
        refine ⟨_, rfl, _, rfl, iteF ⟨_, rfl, _, _, _, _, false, rfl, .ty "bool", tb, by rfl, _, rfl, iteF ⟨_, rfl, _, _, _, _, false, rfl, .ty "int", tb, by rfl, _, rfl, iteF ⟨_, rfl, _, _, _, _, false, rfl, .ty "str", tb, by rfl, _, rfl, iteF ?_⟩⟩⟩⟩
        refine ⟨_, rfl, _, _, _, _, true, rfl, .ty "tuple", tb, by rfl, _, rfl, _, _, _, _, true, rfl, .ty "tuple", ta, by rfl, rfl, false, by rfl, iteF ?_⟩
        refine ⟨_, rfl, _, _, _, _, false, rfl, .ty "list", tb, by rfl, _, rfl, _, _, _, _, false, rfl, .ty "list", ta, by rfl, rfl, false, by rfl, iteF ?_⟩
        refine ⟨_, rfl, a, xs, rfl, .inr (SqT.of ha), _, rfl, b, ys, rfl, .inr (SqT.of hb), rfl, false, ?_, iteF ?_⟩
        · rw [hl, decide_eq_true rfl]
          rfl
        refine ⟨_, rfl, b, ys, rfl, .inr (SqT.of hb), (ys.length : Int), rfl, by omega, hbig, for_range (lo := 0) (n := (ys.length : Int).toNat) (fun i σ G => G = H ∧ ∃ o, σ = [some (.ref a), some (.ref b), o]) ⟨rfl, none, rfl⟩ ?_ ?_⟩
        · rintro i σ G hi ⟨rfl, o, rfl⟩
          rw [Int.toNat_natCast] at hi
          have hx : xs[i]? = some xs[i] := List.getElem?_eq_getElem (by omega)
          have hy : ys[i]? = some ys[i] := List.getElem?_eq_getElem hi
          refine ⟨_, rfl, _, rfl, Or.inr (Or.inl ⟨a, xs, ((0 : Int) + i), xs[i], rfl, rfl, SqT.of ha, by rw [Int.zero_add]; exact atI_nat hx, ?_⟩)⟩
          refine ⟨_, rfl, _, rfl, Or.inr (Or.inl ⟨b, ys, ((0 : Int) + i), ys[i], rfl, rfl, SqT.of hb, by rw [Int.zero_add]; exact atI_nat hy, ?_⟩)⟩
          exact ⟨_, _, rfl, hal i _ _ hx hy, true, rfl, iteF ⟨rfl, _, rfl⟩⟩
        · rintro σ G ⟨rfl, o, rfl⟩
          exact k
      · have ta : TyX K H (.ref a) (.type "list") := .base (.lst ha)
        have tb : TyX K H (.ref b) (.type "list") := .base (.lst hb)
        refine ⟨_, rfl, _, rfl, iteF ⟨_, rfl, _, _, _, _, false, rfl, .ty "bool", tb, by rfl, _, rfl, iteF ⟨_, rfl, _, _, _, _, false, rfl, .ty "int", tb, by rfl, _, rfl, iteF ⟨_, rfl, _, _, _, _, false, rfl, .ty "str", tb, by rfl, _, rfl, iteF ?_⟩⟩⟩⟩
        refine ⟨_, rfl, _, _, _, _, false, rfl, .ty "tuple", tb, by rfl, _, rfl, _, _, _, _, false, rfl, .ty "tuple", ta, by rfl, rfl, false, by rfl, iteF ?_⟩
        refine ⟨_, rfl, _, _, _, _, true, rfl, .ty "list", tb, by rfl, _, rfl, _, _, _, _, true, rfl, .ty "list", ta, by rfl, rfl, false, by rfl, iteF ?_⟩
        refine ⟨_, rfl, a, xs, rfl, .inl (SqL.of ha), _, rfl, b, ys, rfl, .inl (SqL.of hb), rfl, false, ?_, iteF ?_⟩
        · rw [hl, decide_eq_true rfl]
          rfl
        refine ⟨_, rfl, b, ys, rfl, .inl (SqL.of hb), (ys.length : Int), rfl, by omega, hbig, for_range (lo := 0) (n := (ys.length : Int).toNat) (fun i σ G => G = H ∧ ∃ o, σ = [some (.ref a), some (.ref b), o]) ⟨rfl, none, rfl⟩ ?_ ?_⟩
        · rintro i σ G hi ⟨rfl, o, rfl⟩
          rw [Int.toNat_natCast] at hi
          have hx : xs[i]? = some xs[i] := List.getElem?_eq_getElem (by omega)
          have hy : ys[i]? = some ys[i] := List.getElem?_eq_getElem hi
          refine ⟨_, rfl, _, rfl, Or.inl ⟨a, xs, ((0 : Int) + i), xs[i], rfl, rfl, SqL.of ha, by rw [Int.zero_add]; exact atI_nat hx, ?_⟩⟩
          refine ⟨_, rfl, _, rfl, Or.inl ⟨b, ys, ((0 : Int) + i), ys[i], rfl, rfl, SqL.of hb, by rw [Int.zero_add]; exact atI_nat hy, ?_⟩⟩
          exact ⟨_, _, rfl, hal i _ _ hx hy, true, rfl, iteF ⟨rfl, _, rfl⟩⟩
        · rintro σ G ⟨rfl, o, rfl⟩
          exact k
end
/-! ### the class of a refusal -/
/-- D is just the j-th of the twelve classes -/
structure Cis (K : PySem.W.Frag) (A : Ad) (D : Addr) (j : Nat) : Prop where
  ex : ExcC K D
  lt : j < 12
  is : ∀ i, i < 12 → PySem.W.kitOne K (.ref D) (.ref (A.c (i + 2))) = some (decide (i = j))
  ve : PySem.W.kitOne K (.ref D) (.type "ValueError") = some true
def clsW : List Str := ["BadDeal", "BadHand", "BadLetter", "BadTime", "BadKey", "BadHouse", "NoCopy", "Behind", "BadBlock", "BadEntry", "BadText", "Stopped"]
def bsJ (j : Nat) : List Bool := [decide (0 = j), decide (1 = j), decide (2 = j), decide (3 = j), decide (4 = j), decide (5 = j), decide (6 = j), decide (7 = j), decide (8 = j), decide (9 = j), decide (10 = j), decide (11 = j)]
theorem bsJ_count : ∀ j, j < 12 → decide (V.int ((bsJ j).count true : Nat) = V.int 1) = true := by decide
theorem bsJ_at : ∀ j, j < 12 → (bsJ j)[j]? = some true ∧ ∀ m, m < j → (bsJ j)[m]? = some false := by decide
/-- isinstance(e, c): e is the pinned exception, with a dict or without -/
def rIsE2 (K : PySem.W.Frag) (D : Addr) (d : Option Addr) (a : Addr) : List V → Hp → VK → Prop := fun xs H Q => ∃ (c : V) (cv : Value) (b : Bool), xs = [.ref a, c] ∧ (∀ u, RelV c u → u = cv) ∧ PySem.W.kitOne K (.ref D) cv = some b ∧ (∀ dd, d = some dd → ∃ fs, H dd = some (.xd fs)) ∧ Q (.bl b) H
theorem isE2 {X : Cx} {p : Addr × Obj} {D : Addr} {d : Option Addr} (C : ExcC X.K D) (hp : p ∈ X.pn) (hz : Zc (.ref D) d p.2) (hf : ∃ vs, p.2.data = .fields vs) : CallR X (.builtin "isinstance") (rIsE2 X.K D d p.1) := by
  intro pins s σ H xs us Q I r ⟨c, cv, b, ex, hcv, e, hd, q⟩
  subst ex
  obtain ⟨u1, u2, eu, r1, r2⟩ := vals2 r
  subst eu
  cases r1
  cases hcv _ r2
  obtain ⟨vs, hv⟩ := hf
  have hget := (I.pin p (List.mem_append_left _ hp)).1
  obtain ⟨od, J⟩ : ∃ od, PySem.W.InstAt s.heap p.1 p.2 D od := by
    cases d with
    | none => exact ⟨none, hget, hz.1, by unfold PySem.W.notCls; rw [hv] <;> rfl, by rw [hz.2]; trivial⟩
    | some dd =>
      obtain ⟨fs, ea⟩ := hd dd rfl
      have hx : ObjOk X.prog X.w H s.heap dd (.xd fs) := I.hok dd _ ea
      obtain ⟨mA, hns, hr⟩ := hx
      obtain ⟨od, ho, hl⟩ := lookIn_ns hns
      exact ⟨some od, hget, hz.1, by unfold PySem.W.notCls; rw [hv] <;> rfl, by rw [hz.2]; exact ho⟩
  obtain ⟨cdD, hcD, _⟩ := PySem.W.any_some C.hd
  exact PySem.W.kia_one (PySem.W.kitx_exc (by rw [hcD]; rfl) C.hg C.hk C.hs C.ha C.hn C.ht C.hm) I.kIn J e nofun fun tk => ⟨.bl b, H, I.tok tk, rfl, q⟩
section
variable {P : Program} {w : World} {K : PySem.W.Frag} {mg : Str → Option Value} {base : Heap} {A : Ad}
theorem scclass : FnScope ["_law_e", "_law_kinds", "_law_words"] ["_law_e"] (defScope s_class) := ⟨rfl, rfl, rfl, by decide +kernel, rfl, by decide +kernel, by decide +kernel⟩
theorem class_body (T : Txt K mg A) {cdv : Value} {Ar : Around} {outer : List Env} {s : Shared} {H : Hp} {E : XK} {p : Addr × Obj} {D : Addr} {j : Nat} {Q : VK} (C : Cis K A D j) {d : Option Addr} (hz : Zc (.ref D) d p.2) (hf : ∃ vs, p.2.data = .fields vs) (hdF : ∀ G, Kp No H G → ∀ dd, d = some dd → ∃ fs, G dd = some (.xd fs)) (hu : Ar.units + 64 < cLine)
    (k : ∀ (x : Str) (G : Hp), clsW[j]? = some x → Kp No H G → Q (.str x) G) :
    ∃ t, PSs (L2H.cxH L2.CX0 P w K mg base ["_law_e", "_law_kinds", "_law_words"] "_law_class" (defScope s_class) (A.d 44) cdv Ar outer s H E p) (defBody s_class) t ∧ t { nx := fun _ G => Q .non G, rt := Q } (L2.start ["_law_e", "_law_kinds", "_law_words"] [.ref p.1]) H := by
  have IS : CallR (L2H.cxH L2.CX0 P w K mg base ["_law_e", "_law_kinds", "_law_words"] "_law_class" (defScope s_class) (A.d 44) cdv Ar outer s H E p) (.builtin "isinstance") (rIsE2 K D d p.1) := isE2 C.ex (List.mem_singleton.mpr rfl) hz hf
  refine ⟨_, (pss_cons (ps_set (i := 1) scclass.nd rfl (Or.inl rfl) (pe_lst (pa_cons (pe_callB IS (by rfl) T.isinstance (by decide +kernel) (pa_cons (pv 0) (pa_cons (pe_glob (v := .ref (A.c 2)) rfl T.c_BadDeal rfl) pa_nil))) (pa_cons (pe_callB IS (by rfl) T.isinstance (by decide +kernel) (pa_cons (pv 0) (pa_cons (pe_glob (v := .ref (A.c 3)) rfl T.x_BadHand.at_ rfl) pa_nil))) (pa_cons (pe_callB IS (by rfl) T.isinstance (by decide +kernel) (pa_cons (pv 0) (pa_cons (pe_glob (v := .ref (A.c 4)) rfl T.x_BadLetter.at_ rfl) pa_nil))) (pa_cons (pe_callB IS (by rfl) T.isinstance (by decide +kernel) (pa_cons (pv 0) (pa_cons (pe_glob (v := .ref (A.c 5)) rfl T.x_BadTime.at_ rfl) pa_nil))) pa_nil))))))
      (pss_cons (ps_set (i := 1) scclass.nd rfl (Or.inl rfl) (pe_op op_cat (pv 1) (pe_lst (pa_cons (pe_callB IS (by rfl) T.isinstance (by decide +kernel) (pa_cons (pv 0) (pa_cons (pe_glob (v := .ref (A.c 6)) rfl T.x_BadKey.at_ rfl) pa_nil))) (pa_cons (pe_callB IS (by rfl) T.isinstance (by decide +kernel) (pa_cons (pv 0) (pa_cons (pe_glob (v := .ref (A.c 7)) rfl T.x_BadHouse.at_ rfl) pa_nil))) (pa_cons (pe_callB IS (by rfl) T.isinstance (by decide +kernel) (pa_cons (pv 0) (pa_cons (pe_glob (v := .ref (A.c 8)) rfl T.x_NoCopy.at_ rfl) pa_nil))) (pa_cons (pe_callB IS (by rfl) T.isinstance (by decide +kernel) (pa_cons (pv 0) (pa_cons (pe_glob (v := .ref (A.c 9)) rfl T.c_Behind rfl) pa_nil))) pa_nil)))))))
      (pss_cons (ps_set (i := 1) scclass.nd rfl (Or.inl rfl) (pe_op op_cat (pv 1) (pe_lst (pa_cons (pe_callB IS (by rfl) T.isinstance (by decide +kernel) (pa_cons (pv 0) (pa_cons (pe_glob (v := .ref (A.c 10)) rfl T.x_BadBlock.at_ rfl) pa_nil))) (pa_cons (pe_callB IS (by rfl) T.isinstance (by decide +kernel) (pa_cons (pv 0) (pa_cons (pe_glob (v := .ref (A.c 11)) rfl T.x_BadEntry.at_ rfl) pa_nil))) (pa_cons (pe_callB IS (by rfl) T.isinstance (by decide +kernel) (pa_cons (pv 0) (pa_cons (pe_glob (v := .ref (A.c 12)) rfl T.c_BadText rfl) pa_nil))) (pa_cons (pe_callB IS (by rfl) T.isinstance (by decide +kernel) (pa_cons (pv 0) (pa_cons (pe_glob (v := .ref (A.c 13)) rfl T.x_Stopped.at_ rfl) pa_nil))) pa_nil)))))))
      (pss_cons (ps_set (i := 2) scclass.nd rfl (Or.inl rfl) (pe_lst (pa_cons pe_str (pa_cons pe_str (pa_cons pe_str (pa_cons pe_str (pa_cons pe_str (pa_cons pe_str (pa_cons pe_str (pa_cons pe_str (pa_cons pe_str pa_nil)))))))))))
      (pss_cons (ps_set (i := 2) scclass.nd rfl (Or.inl rfl) (pe_op op_cat (pv 2) (pe_lst (pa_cons pe_str (pa_cons pe_str (pa_cons pe_str pa_nil))))))
      (pss_one (ps_ret (pe_ifExp (PW.pt (pw_and (pt_cmpR op_eq (pe_bm PySem.F.plainAttrs_list PySem.F.slot_list_count PySem.F.type_list_count mt_cntB (pv 1) (pa_cons pe_bl pa_nil)) pe_int (nomark _)) (pw_and1 (pt_val (pe_callB IS (by rfl) T.isinstance (by decide +kernel) (pa_cons (pv 0) (pa_cons (pe_bltn (v := .ty "ValueError") (by rfl) T.ValueError (by decide +kernel) rfl) pa_nil))))))) (pe_ix ix_list (pv 2) (pe_bm PySem.F.plainAttrs_list PySem.F.slot_list_index PySem.F.type_list_index mt_index (pv 1) (pa_cons pe_bl pa_nil)) (fun _ _ => rfl)) pe_str)))))))), ?_⟩
  refine ⟨_, rfl, .ref (A.c 2), .ref (A.c 2), _, rfl, (fun u e => e), C.is 0 (by decide), (hdF _ (Kp.refl _ _)), _, rfl, .ref (A.c 3), .ref (A.c 3), _, rfl, (fun u e => e), C.is 1 (by decide), (hdF _ (Kp.refl _ _)), _, rfl, .ref (A.c 4), .ref (A.c 4), _, rfl, (fun u e => e), C.is 2 (by decide), (hdF _ (Kp.refl _ _)), _, rfl, .ref (A.c 5), .ref (A.c 5), _, rfl, (fun u e => e), C.is 3 (by decide), (hdF _ (Kp.refl _ _)), sz 4 (by decide), fun l1 n1 => ?_⟩
  refine ⟨_, rfl, _, rfl, .ref (A.c 6), .ref (A.c 6), _, rfl, (fun u e => e), C.is 4 (by decide), (hdF _ (Kp.new n1)), _, rfl, .ref (A.c 7), .ref (A.c 7), _, rfl, (fun u e => e), C.is 5 (by decide), (hdF _ (Kp.new n1)), _, rfl, .ref (A.c 8), .ref (A.c 8), _, rfl, (fun u e => e), C.is 6 (by decide), (hdF _ (Kp.new n1)), _, rfl, .ref (A.c 9), .ref (A.c 9), _, rfl, (fun u e => e), C.is 7 (by decide), (hdF _ (Kp.new n1)), sz 4 (by decide), fun l2 n2 => ?_⟩
  refine ⟨l1, l2, _, _, rfl, rfl, (upd_ne (ne_of_none upd_same n2)).trans upd_same, upd_same, sz 8 (by decide), fun l3 n3 => ?_⟩
  refine ⟨_, rfl, _, rfl, .ref (A.c 10), .ref (A.c 10), _, rfl, (fun u e => e), C.is 8 (by decide), (hdF _ (((Kp.new n1).andN n2).andN n3)), _, rfl, .ref (A.c 11), .ref (A.c 11), _, rfl, (fun u e => e), C.is 9 (by decide), (hdF _ (((Kp.new n1).andN n2).andN n3)), _, rfl, .ref (A.c 12), .ref (A.c 12), _, rfl, (fun u e => e), C.is 10 (by decide), (hdF _ (((Kp.new n1).andN n2).andN n3)), _, rfl, .ref (A.c 13), .ref (A.c 13), _, rfl, (fun u e => e), C.is 11 (by decide), (hdF _ (((Kp.new n1).andN n2).andN n3)), sz 4 (by decide), fun l4 n4 => ?_⟩
  refine ⟨l3, l4, _, _, rfl, rfl, (upd_ne (ne_of_none upd_same n4)).trans upd_same, upd_same, sz 12 (by decide), fun l5 n5 => ?_⟩
  refine ⟨sz 9 (by decide), fun w1 m1 => ?_⟩
  refine ⟨_, rfl, sz 3 (by decide), fun w2 m2 => ?_⟩
  refine ⟨w1, w2, _, _, rfl, rfl, (upd_ne (ne_of_none upd_same m2)).trans upd_same, upd_same, sz 12 (by decide), fun w3 m3 => ?_⟩
  have b0 : Kp No (upd _ l5 (.lst ((bsJ j).map V.bl))) _ := ((Kp.new (F := No) m1).andN m2).andN (o' := .lst (clsW.map V.str)) m3
  have hk := b0.t.lst upd_same fun z => z
  have kp : Kp No H _ := (((((((Kp.new (F := No) n1).andN n2).andN n3).andN n4).andN n5).andN m1).andN m2).andN (o' := .lst (clsW.map V.str)) m3
  have hj := C.lt
  have fl : ((bsJ j).map V.bl).all flatV = true := flat_bools _
  refine ⟨_, rfl, .inl ⟨rfl, _, SqL.of hk⟩, l5, bsJ j, rfl, rfl, SqL.of hk, rfl, _, rfl, ?_⟩
  rw [bsJ_count j hj]
  refine iteT ⟨_, rfl, ⟨.ty "ValueError", .type "ValueError", true, rfl, (fun u e => e), C.ve, (hdF _ kp), true, rfl, iteT ?_⟩⟩
  refine ⟨_, rfl, _, rfl, .inl ⟨rfl, _, SqL.of hk⟩, l5, _, .bl true, j, .bl true, rfl, rfl, SqL.of hk, rfl, fl, by rw [List.getElem?_map, (bsJ_at j hj).1]; rfl, rfl, fun m z' hm e => ?_, ?_⟩
  · rw [List.getElem?_map, (bsJ_at j hj).2 m hm] at e
    cases e
    rfl
  · obtain ⟨x, hx⟩ : ∃ x, clsW[j]? = some x := ⟨_, List.getElem?_eq_getElem hj⟩
    refine ⟨w3, clsW.map V.str, (j : Nat), .str x, rfl, rfl, SqL.of upd_same, atI_nat (by rw [List.getElem?_map, hx]; rfl), k x _ hx kp⟩
end
end S16

set_option Elab.async false
set_option linter.all false
set_option maxRecDepth 100000
set_option maxHeartbeats 4000000
/-! ### what is refused, told -/
namespace S16
open PySem PySem.Spec PyProof.Rows L2 L2H LamX K5 SupX
theorem pe_never {X : Cx} {e : Expr} : PE X e (fun _ _ _ => False) := ⟨fun _ _ _ _ _ _ h => False.elim h⟩
/-- which exception it is -/
def ErOf (A : Ad) (cls : Value) (d : Option Addr) (G : Hp) : Er → Prop
  | .hand => cls = .ref (A.c 3) ∧ d = none
  | .key => cls = .ref (A.c 6) ∧ d = none
  | .entry => cls = .ref (A.c 11) ∧ d = none
  | .deal p => cls = .ref (A.c 2) ∧ ∃ dd, d = some dd ∧ G dd = some (.xd [("place", .int (p : Nat))])
/-- what the four classes say -/
structure Rs (K : PySem.W.Frag) (A : Ad) : Prop where
  deal : Cis K A (A.c 2) 0
  hand : Cis K A (A.c 3) 1
  key : Cis K A (A.c 6) 4
  entry : Cis K A (A.c 11) 9
  xdeal : PySem.W.exmOne K (.ref (A.c 2)) (.ref (A.c 1)) = some true
  xhand : PySem.W.exmOne K (.ref (A.c 3)) (.ref (A.c 1)) = some true
  xkey : PySem.W.exmOne K (.ref (A.c 6)) (.ref (A.c 1)) = some true
  xentry : PySem.W.exmOne K (.ref (A.c 11)) (.ref (A.c 1)) = some true
  xf : XfC K (A.c 2)
  no : PySem.W.findIn K (.ref (A.c 2)) "place" = some none
/-- a def called where the exception p is handled: its promise may speak of p -/
theorem run_ofP {CX : CXT} {P : Program} {w : World} {K : PySem.W.Frag} {mg : Str → Option Value} {base : Heap} {k : Nat} {f : Addr} {name qual : Str} {params : Arguments} {body : List Stmt} {scope : Scope} {dV kV doc pm cdv ct oc : Value} {an od : Option Addr} {osl : Array (Option Value)} {N ps : List Str}
    (lk : K.lookup f = some ⟨oc, od, .func (PySem.W.fnOf name qual params body scope dV kV doc pm an cdv ct), osl⟩) (hcd : PySem.W.codeIn K cdv qual = true) (S : FnScope N ps scope) {Ar : Around} {outer : List Env} {s : Shared} {H : Hp} {args : Args} {us : List Value} {vs : List V} {Q : VK} {E : XK} {p : Addr × Obj}
    (hr : RoomH (k + 1) Ar) (hpin : PinOk outer H s p) (e0 : Env0 P w K mg base Ar outer s H) (hb : BindsTo s (PySem.W.fnOf name qual params body scope dV kV doc pm an cdv ct) args (ps.zip us)) (r : Vals vs us) (hl : vs.length = ps.length)
    (hbody : RoomH k (Ar.deeper (envOfC qual scope s.heap.objs.size f cdv)) → ∃ t, PSs (cxH CX P w K mg base N qual scope f cdv Ar outer s H E p) body t ∧ t { nx := fun _ G => Q .non G, rt := Q } (L2.start N vs) H) :
    codeAny (model P w) Ar (.call (.ref f) args) (CR CX outer P w H s Q E) s := by
  have KX : K.In s.heap := e0.mod.kin.keeps fun b o e => (e0.bs b o e).1
  have lim : s.heap.NoLimit := e0.mod.nolimit.keeps fun b o e => (e0.bs b o e).1
  have kinds : ∀ y ∈ ps.zip us, scope.names.lookup y.1 = some .local ∨ (scope.names.lookup y.1 = some .cell ∧ ((cellsFrom (s.heap.objs.size + 1) scope.names []).lookup y.1).isSome = true) := fun ⟨n, v⟩ hy =>
    (S.par n (List.of_mem_zip hy).1).imp id fun q => ⟨q, PySem.W.cellsFrom_some _ _ _ (.inl q)⟩
  refine codeAny_call_function hr.depth (KX _ _ lk) rfl S.co S.gen rfl (PySem.W.codeRec_of KX hcd) (hb _ _ _ _ (wpAny_newFunctionEnv_cells S.kind kinds fun env he s1 x => ?_))
  subst he
  obtain ⟨t, ht, hq⟩ := hbody (hr.deeper _)
  refine ⟨lim.keeps x.toInCall.keep, codeAny_func (wpAny_mono (ht.run [] s1 (L2.start N vs) H _ (inv_startH S hpin e0 hl r x) hq) (fun fl s' hs => ?_) fun e s' hs => hs)⟩
  match fl, hs with
  | .ret u, ⟨v, σ', G, J, rv, q⟩ => exact ⟨v, G, J.os, J.bare, J.base, J.hok, rv, q⟩
  | .next, ⟨σ', G, J, q⟩ => exact (⟨V.non, G, J.os, J.bare, J.base, J.hok, rfl, q⟩ : CE outer P w H s Q Value.none s')
  | .brk, ⟨_, _, _, q⟩ => exact q.elim
  | .cont, ⟨_, _, _, q⟩ => exact q.elim
section
variable {P : Program} {w : World} {K : PySem.W.Frag} {mg : Str → Option Value} {base : Heap} {A : Ad}
/-- _law_class(_law_e), within the suite -/
theorem suite_class {X : Cx} {a : Addr} {oe : Obj} {pn : List (Addr × Obj)} {D : Addr} {d : Option Addr} {j : Nat} {p1 p2 pos : Pos} (T : Txt X.K X.mg A) (hg : Gl X "_law_class") (hN : X.N[1]? = some ("_law_e" : Str)) (hv : Vis X.env.scope "_law_e") (hr : Room 2 X.A)
    (C : Cis X.K A D j) (hz : L2N.Zn (.ref D) d oe) (hf : ∃ vs, oe.data = .fields vs)
    (he : starEach [.Name "_law_e" p2] X.env = (false, eval (.Name "_law_e" p2) X.env) :: starEach [] X.env := by rfl) (hpl : (backTo pos (starEach [] X.env)).any (·.1) = false := by rfl) :
    PE (X.suite a ((a, oe) :: pn)) (.Call (.Name "_law_class" p1) [.Name "_law_e" p2] [] pos) (fun σ H Q => σ[1]? = some (some (.ref a)) ∧ (∀ G, Kp No H G → ∀ dd, d = some dd → ∃ fs, G dd = some (.xd fs)) ∧ ∀ (x : Str) (G : Hp), clsW[j]? = some x → Kp No H G → Q (.str x) G) := by
  refine ⟨fun pins s σ H Q I ⟨hσ, hdF, h⟩ => wpAny_Call_Name_kw (ld_glob I hg T.class_.at_ (PySem.W.callWith_K (h₀ := X.base) I.ok.mod.kin T.class_.kp (thn ((pa_cons (pe_var (X := X.suite a ((a, oe) :: pn)) (i := 1) hN hv) pa_nil).run pos pins s σ H (fun vs G => vs = [.ref a] ∧ G = H) I ⟨_, hσ, rfl, rfl⟩) fun us s1 ⟨vs, G, I1, r, ev, eG⟩ => ⟨I1.kIn, ?_⟩) he hpl))⟩
  subst ev eG
  obtain ⟨fd, F⟩ := T.class_.fn
  have bC : Binds X.K fd ["_law_e"] [] := F.binds fun _ _ _ _ _ _ us hl => match us, hl with | [_], _ => rfl
  obtain ⟨oc, od, kV, doc, pm, an, cdv, ct, osl, rfl, lk, hcd⟩ := F.ex
  have P1 := I1.pin (a, oe) (List.mem_append_left _ List.mem_cons_self)
  have pin : PinOk X.stack G s1 (a, oe) := ⟨P1.1, P1.2.1, fun hm => (List.mem_cons.mp (I1.stkSub a hm)).elim P1.2.2.1 P1.2.2.2.1, P1.2.2.2.2⟩
  have hl : us.length = 1 := by rw [← r.length]; rfl
  have b := bC s1 us I1.kIn (by rw [List.append_nil]; exact hl)
  rw [List.append_nil] at b
  have hr1 : RoomH 2 (X.A.mark (some (.ref a))) := ⟨hr.dp, hr.un⟩
  have key : codeAny (model X.prog X.w) (X.A.mark (some (.ref a))) (.call (.ref (A.d 44)) ⟨us, []⟩) (CR L2.CX0 X.stack X.prog X.w G s1 Q L2.E0) s1 := by
    refine run_ofP (N := ["_law_e", "_law_kinds", "_law_words"]) (ps := ["_law_e"]) (p := (a, oe)) lk hcd scclass hr1 pin I1.env0 b r rfl fun hr2 => ?_
    exact class_body T C hz.zc hf hdF (by have := hr1.un; omega) h
  refine wpAny_call (codeAny_mono key fun r s' hq => ?_)
  match r, hq with
  | .error e, hq => exact (show False from hq).elim
  | .ok (.ret u), hq => exact I1.after hq
  | .ok .next, hq => exact False.elim hq
  | .ok .brk, hq => exact False.elim hq
  | .ok .cont, hq => exact False.elim hq
/-- told: what the refusal is -/
def TTr (A : Ad) : (XK → Hp → VK → Prop) → Hp → VK → Prop := fun tl H Q =>
  tl (fun cls d G => ∃ r : Er, ErOf A cls d G r ∧ ∀ (p : Addr) (J : Hp), Kp No G J → J p = some (.tup [.str r.word, .int r.num]) → Q (.ref p) J) H (fun _ G => Q .non G)
theorem takesN0 {X : Cx} : L2N.Takes X (fun _ _ _ _ => False) := fun _ _ ⟨_, _, _, _, _, _, _, _, _, _, _, _, _, _, _, _, w⟩ => w.elim
abbrev Nscref : List Str := ["_law_work", "_law_e", "_law_word"]
theorem scref : FnScope Nscref ["_law_work"] (defScope s_refused) := ⟨rfl, rfl, rfl, by decide +kernel, rfl, by decide +kernel, by decide +kernel⟩
theorem refused_ok {X : Cx} {cdg : Value} {q : Str} (T : Txt X.K X.mg A) (R : Rs X.K A) : GivesN X Nscref "_law_refused" (defScope s_refused) (A.d 45) cdg (defBody s_refused) "_law_work" q (TTr A) := by
  intro f c' s H Q tl hr act hc h
  refine ⟨_, pss_cons (L2N.ps_try_as (X := (cxG X Nscref "_law_refused" (defScope s_refused) (A.d 45) cdg s H).nox) (i := 1) (c := .ref (A.c 1)) (Wout := fun _ _ _ _ => False)
      (tb := fun W D σ G => ∃ Ech : XK, (∀ cls d τ J, Ech cls d J → W cls d τ J) ∧ σ[0]? = some (some (.ref f)) ∧ G c' = some (CodeO c' q) ∧ tl Ech G (fun _ J => D.nx σ J))
      (ts := fun a cls d D σ G => (∃ τ : L2.St, σ = τ.set 1 (some (.ref a))) ∧ ∃ r : Er, ErOf A cls d G r ∧ ∀ (p : Addr) (J : Hp), Kp No G J → J p = some (.tup [.str r.word, .int r.num]) → D.rt (.ref p) J)
      rfl rfl scref.nd rfl rfl ⟨rfl, by decide, .inl T.c_StillError⟩ takesN0 (fun W pn xe tk _ => ?_) (fun a oe cls d pn hz hf => ?_)) (pss_one (ps_ret pe_non)), ?_⟩
  · exact ⟨fun pins s' σ G D I ⟨Ech, hW, h1, h2, h3⟩ => (pss_one (ps_expr (act W pn xe Ech _ _ tk hW))).run pins s' σ G D I ⟨h1, h2, h3⟩⟩
  · refine ⟨fun pins s' σ G D I ⟨⟨τ, eτ⟩, r, hE, k⟩ => ?_⟩
    have hl : σ.length = 3 := I.len
    have hσ : σ[1]? = some (some (.ref a)) := by
      rw [eτ, List.length_set] at hl
      rw [eτ, List.getElem?_set_self (by omega)]
    obtain ⟨x0, x2, rfl⟩ : ∃ x0 x2, σ = [x0, some (.ref a), x2] := by
      match σ, hl, hσ with
      | [x0, x1, x2], _, e => exact ⟨x0, x2, by cases e; rfl⟩
    have two : (∃ (D0 : Addr) (j : Nat) (wd : Str), cls = .ref D0 ∧ d = none ∧ Cis X.K A D0 j ∧ clsW[j]? = some wd ∧ wd ≠ "BadDeal" ∧ wd ≠ "Behind" ∧ wd ≠ "BadText" ∧ ∀ (p : Addr) (J : Hp), Kp No G J → J p = some (.tup [.str wd, .int 0]) → D.rt (.ref p) J) ∨
        ∃ (dd : Addr) (p : Nat), cls = .ref (A.c 2) ∧ d = some dd ∧ G dd = some (.xd [("place", .int (p : Nat))]) ∧ ∀ (q : Addr) (J : Hp), Kp No G J → J q = some (.tup [.str "BadDeal", .int (p : Nat)]) → D.rt (.ref q) J := by
      cases r with
      | hand => exact .inl ⟨_, _, "BadHand", hE.1, hE.2, R.hand, rfl, by decide, by decide, by decide, k⟩
      | key => exact .inl ⟨_, _, "BadKey", hE.1, hE.2, R.key, rfl, by decide, by decide, by decide, k⟩
      | entry => exact .inl ⟨_, _, "BadEntry", hE.1, hE.2, R.entry, rfl, by decide, by decide, by decide, k⟩
      | deal p =>
        obtain ⟨e1, dd, e2, hdd⟩ := hE
        exact .inr ⟨dd, p, e1, e2, hdd, k⟩
    rcases two with ⟨D0, j, wd, e1, e2, C, hw, n1, n2, n3, k⟩ | ⟨dd, p, e1, e2, hdd, k⟩
    · subst e1 e2
      refine (pss_cons (ps_set (i := 2) scref.nd rfl (Or.inl rfl) (suite_class (X := (cxG X Nscref "_law_refused" (defScope s_refused) (A.d 45) cdg s H).nox) T rfl rfl (.inl rfl) (hr.mono (by decide)) C hz hf))
        (pss_cons (ps_if (pt_cmpR op_eq (pv 2) pe_str (nomark _)) (pss_one (ps_ret pe_never)) pss_nil)
        (pss_cons (ps_if (pt_cmpR op_eq (pv 2) pe_str (nomark _)) (pss_one (ps_ret pe_never)) pss_nil)
        (pss_one (ps_ret (pe_tup (pa_cons (pv 2) (pa_cons (pe_ifExp (pt_cmpR op_eq (pv 2) pe_str (nomark _)) pe_never pe_int) pa_nil)))))))).run pins s' _ G D I ?_
      refine ⟨rfl, (fun _ _ _ z => by cases z), fun x J hx kJ => ?_⟩
      obtain rfl : wd = x := by rw [hw] at hx; exact Option.some.inj hx
      refine ⟨_, rfl, rfl, _, rfl, ?_⟩
      rw [show decide (V.str wd = V.str "BadDeal") = false by simpa using n1]
      refine iteF ⟨_, rfl, rfl, _, rfl, ?_⟩
      rw [show decide (V.str wd = V.str "Behind") = false by simpa using n2]
      refine iteF ⟨_, rfl, _, rfl, rfl, _, rfl, ?_⟩
      rw [show decide (V.str wd = V.str "BadText") = false by simpa using n3]
      exact iteF ⟨sz 2 (by decide), fun p np => k p _ (kJ.andN np) upd_same⟩
    · subst e1 e2
      refine (pss_cons (ps_set (i := 2) scref.nd rfl (Or.inl rfl) (suite_class (X := (cxG X Nscref "_law_refused" (defScope s_refused) (A.d 45) cdg s H).nox) T rfl rfl (.inl rfl) (hr.mono (by decide)) R.deal hz hf))
        (pss_cons (ps_if (pt_cmpR op_eq (pv 2) pe_str (nomark _)) (pss_one (ps_ret (pe_tup (pa_cons (pv 2) (pa_cons (pe_xf R.xf R.no hz.zc hf (pv 1)) pa_nil))))) pss_nil)
        (pss_cons (ps_if (pt_cmpR op_eq (pv 2) pe_str (nomark _)) (pss_one (ps_ret pe_never)) pss_nil)
        (pss_one (ps_ret pe_never))))).run pins s' _ G D I ?_
      refine ⟨rfl, (fun J kJ d2 z => by cases z; exact ⟨_, kJ _ _ hdd fun m => nomatch m⟩), fun x J hx kJ => ?_⟩
      obtain rfl : ("BadDeal" : Str) = x := Option.some.inj hx
      refine ⟨_, rfl, rfl, _, rfl, iteT ⟨_, rfl, _, rfl, rfl, rfl, dd, _, .int (p : Nat), rfl, kJ _ _ hdd (fun m => nomatch m), rfl, sz 2 (by decide), fun t nt => ?_⟩⟩
      exact k t _ (kJ.andN nt) upd_same
  · refine ⟨_, fun cls d τ J hx => ?_, rfl, hc, h⟩
    obtain ⟨r, hE, k⟩ := hx
    cases r with
    | hand => obtain ⟨e1, e2⟩ := hE; subst e1 e2; exact ⟨true, R.xhand, fun _ a _ => ⟨⟨τ, rfl⟩, .hand, ⟨rfl, rfl⟩, k⟩, fun z => by cases z⟩
    | key => obtain ⟨e1, e2⟩ := hE; subst e1 e2; exact ⟨true, R.xkey, fun _ a _ => ⟨⟨τ, rfl⟩, .key, ⟨rfl, rfl⟩, k⟩, fun z => by cases z⟩
    | entry => obtain ⟨e1, e2⟩ := hE; subst e1 e2; exact ⟨true, R.xentry, fun _ a _ => ⟨⟨τ, rfl⟩, .entry, ⟨rfl, rfl⟩, k⟩, fun z => by cases z⟩
    | deal p => obtain ⟨e1, dd, e2, hdd⟩ := hE; subst e1 e2; exact ⟨true, R.xdeal, fun _ a _ => ⟨⟨τ, rfl⟩, .deal p, ⟨rfl, dd, rfl, hdd⟩, k⟩, fun z => by cases z⟩
theorem lam_ref {X : Cx} (T : Txt X.K X.mg A) (R : Rs X.K A) {Tb : List (Addr × Str)} {c P : Addr} {params : Arguments} {body : Expr} {scope : Scope} {t : XK → TE} {p lpos pos : Pos} (hg : Gl X "_law_refused")
    (TB : TabB X.base X.mg c P) (hcode : X.env.code = .ref c) (hmT : (P, X.env.qual ++ "<lambda>") ∈ Tb) (hu : ∀ p ∈ Tb, p.1 = P → p.2 = X.env.qual ++ "<lambda>") (hr : Room 8 X.A) (Ls : LamS X.env.scope scope) (hdef : defaultsOf params X.env = ([], []))
    (hbind : ∀ (q : Str) (cl : List (Str × Addr)) (pm cv ctv : Value), bindArgs (PySem.W.kla_fn "<lambda>" q params body scope cl pm cv ctv) ⟨[], []⟩ = pure [])
    (hbody : ∀ (Ar : Around) (outer : List Env) (s : Shared) (H : Hp) (E : XK) (f c' : Addr), Room 6 (Ar.deeper (lamEnv X scope s.heap.objs.size f c')) → PE (lamN X Ar outer s H E scope f c') body (t E)) :
    PE X (.Call (.Name "_law_refused" p) [.Lambda params body scope lpos] [] pos) (tLamN Tb (TTr A) t) := by
  obtain ⟨fd, F⟩ := T.refused.fn
  have bT : Binds X.K fd ["_law_work"] [] := F.binds fun _ _ _ _ _ _ us hl => match us, hl with | [_], _ => rfl
  obtain ⟨oc, od, kV, doc, pm, an, cdv, ct, osl, rfl, lk, hcd⟩ := F.ex
  exact lamcallN (k := 6) hg T.refused.at_ T.refused.kp lk hcd bT scref rfl (.inl rfl) (refused_ok T R) (by decide) TB hcode hmT hu hr Ls hdef hbind hbody
end
end S16

set_option Elab.async false
set_option linter.all false
set_option maxRecDepth 100000
set_option maxHeartbeats 4000000
/-! ### the law -/
namespace S16
open PySem PySem.Spec PyProof.Rows L2 L2H LamX K5 SupX
/-- data, as it is compared -/
def Dt (K : PySem.W.Frag) (H : Hp) (n : Nat) (v : V) (d : PyData) : Prop := Dp K H v d ∧ d.canLay0 = true ∧ d.depth ≤ n
def DtA (K : PySem.W.Frag) (H : Hp) (n : Nat) (vs : List V) (ds : List PyData) : Prop := DpAll K H vs ds ∧ PyData.canLayAll0 ds = true ∧ PyData.depthAll ds ≤ n
section
variable {K : PySem.W.Frag} {H : Hp}
theorem Dt.int (n : Nat) (i : Int) : Dt K H n (.int i) (.int i) := ⟨.int i, by simp only [PyData.canLay0], by simp only [PyData.depth]; omega⟩
theorem Dt.non (n : Nat) : Dt K H n .non .none := ⟨.non, by simp only [PyData.canLay0], by simp only [PyData.depth]; omega⟩
theorem Dt.str (n : Nat) (x : Str) (h : PyData.strOk x = true) : Dt K H n (.str x) (.str x) := ⟨.str x, by simpa only [PyData.canLay0] using h, by simp only [PyData.depth]; omega⟩
theorem DtA.nil (n : Nat) : DtA K H n [] [] := ⟨.nil, by simp only [PyData.canLayAll0], by simp only [PyData.depthAll]; omega⟩
theorem Dt.cons {n : Nat} {v : V} {vs : List V} {d : PyData} {ds : List PyData} (h : Dt K H n v d) (hs : DtA K H n vs ds) : DtA K H n (v :: vs) (d :: ds) :=
  ⟨.cons h.1 hs.1, by simp only [PyData.canLayAll0, h.2.1, hs.2.1, Bool.and_self], by simp only [PyData.depthAll]; exact Nat.max_le.mpr ⟨h.2.2, hs.2.2⟩⟩
theorem Dt.tup {n : Nat} {a : Addr} {xs : List V} {ds : List PyData} (e : H a = some (.tup xs)) (h : DtA K H n xs ds) : Dt K H (n + 1) (.ref a) (.tuple ds) :=
  ⟨.tup (SqT.of e) h.1, by simp only [PyData.canLay0]; exact h.2.1, by simp only [PyData.depth]; have := h.2.2; omega⟩
theorem Dt.lst {n : Nat} {a : Addr} {xs : List V} {ds : List PyData} (e : H a = some (.lst xs)) (h : DtA K H n xs ds) : Dt K H (n + 1) (.ref a) (.list ds) :=
  ⟨.lst (SqL.of e) h.1, by simp only [PyData.canLay0]; exact h.2.1, by simp only [PyData.depth]; have := h.2.2; omega⟩
theorem Dt.up {n m : Nat} {v : V} {d : PyData} (h : Dt K H n v d) (l : n ≤ m) : Dt K H m v d := ⟨h.1, h.2.1, Nat.le_trans h.2.2 l⟩
theorem Dt.same {n : Nat} {v u : V} {d : PyData} (h : Dt K H n v d) (hn : n ≤ 64) : SeqAt.shaped d = true ∧ PyData.eqv d d = true := ⟨shaped_of h.2.1 (Nat.le_trans h.2.2 hn), SeqAt.eqv_refl d h.2.1⟩
theorem dt_oV (n : Nat) (x : Option Int) : ∃ d, Dt K H n (oV x) d := by
  cases x with
  | none => exact ⟨_, Dt.non n⟩
  | some i => exact ⟨_, Dt.int n i⟩
theorem dt_all {α : Type} {R : V → α → Prop} {n : Nat} (h : ∀ v a, R v a → ∃ d, Dt K H n v d) {xs : List V} {ys : List α} (p : Paired R xs ys) : ∃ ds, DtA K H n xs ds := by
  induction p with
  | nil => exact ⟨_, DtA.nil n⟩
  | cons r _ ih =>
    obtain ⟨d, hd⟩ := h _ _ r
    obtain ⟨ds, hds⟩ := ih
    exact ⟨_, hd.cons hds⟩
theorem dt_dd {v : V} {d : Dd} (h : DdAt H v d) : ∃ x, Dt K H 1 v x := by
  obtain ⟨a, rfl, e⟩ := h
  cases d with
  | put k w l => exact ⟨_, Dt.tup e ((Dt.str 0 "put" (by decide +kernel)).cons ((Dt.int 0 k).cons ((Dt.int 0 w).cons ((Dt.int 0 l).cons (DtA.nil 0)))))⟩
  | drop k => exact ⟨_, Dt.tup e ((Dt.str 0 "drop" (by decide +kernel)).cons ((Dt.int 0 k).cons (DtA.nil 0)))⟩
  | add k m => exact ⟨_, Dt.tup e ((Dt.str 0 "add" (by decide +kernel)).cons ((Dt.int 0 k).cons ((Dt.int 0 m).cons (DtA.nil 0))))⟩
  | iff k w =>
    obtain ⟨d, hd⟩ := dt_oV (K := K) (H := H) 0 w
    exact ⟨_, Dt.tup e ((Dt.str 0 "if" (by decide +kernel)).cons ((Dt.int 0 k).cons (hd.cons (DtA.nil 0))))⟩
theorem dt_ds {v : V} {ds : List Dd} (h : DsAt H v ds) : ∃ x, Dt K H 2 v x := by
  obtain ⟨a, xs, rfl, e, p, _⟩ := h
  obtain ⟨qs, hq⟩ := dt_all (K := K) (H := H) (n := 1) (fun v a z => dt_dd z) p
  exact ⟨_, Dt.tup e hq⟩
theorem dt_en {v : V} {e : En} (h : EnAt H v e) : ∃ x, Dt K H 3 v x := by
  cases e with
  | deal hd ds =>
    obtain ⟨a, dv, rfl, e, hds⟩ := h
    obtain ⟨x, hx⟩ := dt_ds (K := K) hds
    exact ⟨_, Dt.tup e ((Dt.str 2 "deal" (by decide +kernel)).cons ((Dt.int 2 hd).cons (hx.cons (DtA.nil 2))))⟩
  | tick t =>
    obtain ⟨a, rfl, e⟩ := h
    exact ⟨_, Dt.tup e ((Dt.str 2 "tick" (by decide +kernel)).cons ((Dt.int 2 t).cons (DtA.nil 2)))⟩
  | odd =>
    obtain ⟨a, xs, rfl, e, q⟩ := h
    rcases q with rfl | rfl | ⟨dv, ds, rfl, hds⟩
    · exact ⟨_, Dt.tup e (DtA.nil 2)⟩
    · exact ⟨_, Dt.tup e ((Dt.str 2 "tick" (by decide +kernel)).cons (DtA.nil 2))⟩
    · obtain ⟨x, hx⟩ := dt_ds (K := K) hds
      exact ⟨_, Dt.tup e ((Dt.str 2 "Deal" (by decide +kernel)).cons ((Dt.int 2 0).cons (hx.cons (DtA.nil 2))))⟩
theorem dt_rd {v : V} {r : Rd} (h : RdAt H v r) : ∃ x, Dt K H 3 v x := by
  obtain ⟨a, rfl, e⟩ := h
  obtain ⟨d, hd⟩ := dt_oV (K := K) (H := H) 2 r.worth
  exact ⟨_, Dt.tup e ((Dt.int 2 r.hand).cons ((Dt.int 2 r.num).cons ((Dt.int 2 r.key).cons (hd.cons (DtA.nil 2)))))⟩
end
theorem leaf_oN (x : Option Nat) : leafV (oN x) = true := by cases x <;> rfl
theorem Er.word_ok (r : Er) : PyData.strOk r.word = true := by
  cases r with
  | hand => exact (by decide +kernel : PyData.strOk "BadHand" = true)
  | key => exact (by decide +kernel : PyData.strOk "BadKey" = true)
  | entry => exact (by decide +kernel : PyData.strOk "BadEntry" = true)
  | deal p => exact (by decide +kernel : PyData.strOk "BadDeal" = true)
abbrev Nsclaw : List Str := ["_law_script", "_law_box", "_law_entries_here", "_law_stores", "_law_turn", "_law_readings_here", "_law_handed", "_law_again_here", "_law_found", "_law_due_here", "_law_others", "_law_rows"]
theorem sclaw : FnScope Nsclaw ["_law_script"] (defScope s_law) := ⟨rfl, rfl, rfl, by decide +kernel, rfl, by decide +kernel, by decide +kernel⟩
def lamQ : Str := (envOfC "law" { kind := .function, names := [], isGenerator := false, isCoroutine := false } 0 0 .none).qual ++ "<lambda>"
def spLaw (K : PySem.W.Frag) (pL : Addr) : Sp := fun vs H Q _ => ∃ (a : Addr) (ns : List Int), vs = [.ref a] ∧ SqL K H a (ns.map V.int) ∧ ns.length ≤ 63 ∧ Tabs [(pL, lamQ)] H ∧ ∀ G, Q (.bl true) G
theorem erx_of {A : Ad} {E : XK} {G : Hp} {er : Er} (h : ∀ cls d J, Kp No G J → ErOf A cls d J er → E cls d J) : ErX A E G er := by
  cases er with
  | hand => exact h _ _ _ (Kp.refl _ _) ⟨rfl, rfl⟩
  | key => exact h _ _ _ (Kp.refl _ _) ⟨rfl, rfl⟩
  | entry => exact h _ _ _ (Kp.refl _ _) ⟨rfl, rfl⟩
  | deal p => exact fun d nd => h _ _ _ (Kp.new nd) ⟨rfl, d, rfl, upd_same⟩
theorem odd_ends {A : Ad} {E : XK} {G : Hp} {es : List En} {rs : List Rd} {er : Er} {Qn : Prop} (ho : Odd es rs er) (h : ErX A E G er) : (∀ r, badE Tb.new es = some r → ErX A E G r) ∧ (badE Tb.new es = none → (∀ r, badR rs = some r → ErX A E G r) ∧ (badR rs = none → Qn)) := by
  rcases ho with ho | ⟨h1, h2⟩
  · exact ⟨fun r z => by rw [ho] at z; cases z; exact h, fun z => by rw [ho] at z; cases z⟩
  · exact ⟨fun r z => by rw [h1] at z; (cases z), fun _ => ⟨fun r z => by rw [h2] at z; cases z; exact h, fun z => by rw [h2] at z; cases z⟩⟩
section
variable {P : Program} {w : World} {K : PySem.W.Frag} {mg : Str → Option Value} {A : Ad} {B C fI pL cL : Addr}
theorem law_body {base : Heap} (T : Txt K mg A) (X : Ex P w K mg A B C fI) (htop : (P.main.scope.names.lookup ("super" : Str)).isSome = false) (R : Rs K A) (TB : TabB base mg cL pL) {Ar : Around} {outer : List Env} {s : Shared} {H : Hp} {vs : List V} {Q : VK} {E : XK}
    (hr : Room 8 (Ar.deeper (envOfC "law" (defScope s_law) s.heap.objs.size (A.d 59) (.ref cL)))) (h : spLaw K pL vs H Q E) : ∃ t, PSs (cxOf CX0 P w K mg base Nsclaw "law" (defScope s_law) (A.d 59) (.ref cL) Ar outer s H E).nox (defBody s_law) t ∧ t { nx := fun _ G => Q .non G, rt := Q } (L2.start Nsclaw vs) H := by
  obtain ⟨fdB, Gbegun, bbegun⟩ := ok_begun (P := P) (w := w) (base := base) T
  obtain ⟨fdE, Gentries, bentries⟩ := ok_entries (P := P) (w := w) (base := base) T
  obtain ⟨fdR, Greadings, breadings⟩ := ok_readings (P := P) (w := w) (base := base) T
  obtain ⟨fdJ, Gjudge, bjudge⟩ := ok_judge (P := P) (w := w) (base := base) T X htop
  obtain ⟨fdA, balike, GA⟩ := ok_alike (P := P) (w := w) (base := base) T
  have Galike := GA 2
  obtain ⟨fdD, Gdue, bdue⟩ := ok_due (P := P) (w := w) (base := base) T
  obtain ⟨fdO, Godd, bodd⟩ := ok_odd (P := P) (w := w) (base := base) T
  obtain ⟨a, ns, rfl, hS, hns, hT, k⟩ := h
  have hu := hu_of hr
  refine ⟨_, (pss_cons (ps_set (i := 1) sclaw.nd rfl (Or.inl rfl) (pe_call Gbegun (hr.mono (by first | decide | omega)) rfl T.begun.at_ T.begun.kp bbegun .nil pass0 (pa_cons (pv 0) pa_nil)))
      (pss_cons (ps_asg (pe_call Gentries (hr.mono (by first | decide | omega)) rfl T.entries.at_ T.entries.kp bentries .nil pass0 (pa_cons (pv 1) pa_nil)) (pg_tup rfl (pgs_cons (pg_name (i := 2) sclaw.nd rfl (Or.inl rfl)) (pgs_cons (pg_name (i := 3) sclaw.nd rfl (Or.inl rfl)) pgs_nil))))
      (pss_cons (ps_for PassesOwn.never rfl (pi_range1 (by rfl) T.range (pa_cons pe_int pa_nil)) (pg_name (i := 4) sclaw.nd rfl (Or.inl rfl))
        (pss_cons (ps_set (i := 5) sclaw.nd rfl (Or.inl rfl) (pe_call Greadings (hr.mono (by first | decide | omega)) rfl T.readings.at_ T.readings.kp breadings .nil pass0 (pa_cons (pv 1) (pa_cons (pv 3) pa_nil))))
        (pss_cons (ps_set (i := 6) sclaw.nd rfl (Or.inl rfl) (pe_tup (pa_cons (pe_callTy call_list_of (by rfl) T.list (by decide +kernel) (pa_cons (pv 2) pa_nil)) (pa_cons (pe_callTy call_list_of (by rfl) T.list (by decide +kernel) (pa_cons (pv 5) pa_nil)) pa_nil))))
        (pss_cons (ps_for PassesOwn.never rfl (pi_range1 (by rfl) T.range (pa_cons pe_int pa_nil)) (pg_name (i := 7) sclaw.nd rfl (Or.inl rfl))
          (pss_cons (ps_set (i := 8) sclaw.nd rfl (Or.inl rfl) (pe_call (E := fun _ _ _ => False) Gjudge (hr.mono (by decide)) rfl T.judge.at_ T.judge.kp bjudge .nil (L2N.passes_call takesN0 fun _ _ _ _ h => h) (pa_cons (pe_ix ix_tup (pv 6) pe_int (fun _ _ => rfl)) (pa_cons (pe_ix ix_tup (pv 6) pe_int (fun _ _ => rfl)) pa_nil))))
          (pss_one (ps_if (PW.pt (pw_or (pt_not (pt_val (pe_call Galike (hr.mono (by first | decide | omega)) rfl T.alike.at_ T.alike.kp balike .nil pass0 (pa_cons (pv 8) (pa_cons (pe_call Gdue (hr.mono (by first | decide | omega)) rfl T.due.at_ T.due.kp bdue .nil pass0 (pa_cons (pv 3) (pa_cons (pv 5) pa_nil))) pa_nil))))) (pw_or1 (pt_cmpR (op_neD hr.units) (pv 6) (pe_tup (pa_cons (pv 2) (pa_cons (pv 5) pa_nil))) (nomark _)))))
            (pss_one (ps_ret pe_bl))
            pss_nil))))
        (pss_cons (ps_asg (pe_call Godd (hr.mono (by first | decide | omega)) rfl T.odd.at_ T.odd.kp bodd .nil pass0 (pa_cons (pv 1) (pa_cons (pv 2) (pa_cons (pv 5) pa_nil)))) (pg_tup rfl (pgs_cons (pg_name (i := 11) sclaw.nd rfl (Or.inr rfl)) (pgs_cons (pg_name (i := 10) sclaw.nd rfl (Or.inr rfl)) (pgs_cons (pg_name (i := 9) sclaw.nd rfl (Or.inl rfl)) pgs_nil)))))
        (pss_one (ps_if (pt_not (pt_val (pe_call Galike (hr.mono (by first | decide | omega)) rfl T.alike.at_ T.alike.kp balike .nil pass0 (pa_cons (lam_ref (Tb := [(pL, lamQ)]) T R rfl TB rfl (by exact List.mem_cons_self) (fun p hp _ => by rw [List.mem_singleton.mp hp]; rfl) (hr.mono (by decide)) (lamS_by (by show lamSB (defScope s_law) _ = true; decide +kernel)) rfl (fun _ _ _ _ _ => rfl) (fun Ar outer s H E f c' hr => pe_call (E := E) Gjudge hr rfl T.judge.at_ T.judge.kp bjudge .nil (L2N.passes_call (L2N.takes_of rfl rfl rfl rfl) fun _ _ _ _ h => h) (pa_cons (pv 11) (pa_cons (pv 10) pa_nil)))) (pa_cons (pv 9) pa_nil)))))
          (pss_one (ps_ret pe_bl))
          pss_nil)))))))
      (pss_one (ps_ret pe_bl))))), ?_⟩
  refine ⟨_, rfl, a, ns, rfl, hS, hns, fun G0 bx bi nbx nbi B0 k0 => ?_⟩
  refine ⟨_, rfl, bx, bi, rfl, B0, fun G1 p1 E1 S1 xs ys es B1 k1 nE nS nES hp1 hE1 pE1 hS1 pS1 hel hbE => ⟨p1, _, rfl, SqT.of hp1, rfl, _, _, rfl, _, _, rfl, rfl, ?_⟩⟩
  have hEb : ¬ bF bx bi E1 := new_nb B0 nE
  have hSb : ¬ bF bx bi S1 := new_nb B0 nS
  have hT1 : Tabs [(pL, lamQ)] G1 := k1.tabs (k0.tabs hT)
  have hyl : ys.length = es.length + 1 := by rw [pS1.length, tbs_length]
  refine ⟨3, rfl, by decide, by decide, for_range (lo := 0) (n := (3 : Int).toNat) (fun i σ G => (∃ o4 o5 o6 o7 o8 o9 o10 o11, σ = [some (.ref a), some (.ref bx), some (.ref E1), some (.ref S1), o4, o5, o6, o7, o8, o9, o10, o11]) ∧ BoxAt G bx bi ∧ G E1 = some (.lst xs) ∧ Paired (EnAt G) xs es ∧ G S1 = some (.lst ys) ∧ Paired (SsAt 200 G) ys (tbs Tb.new es) ∧ Tabs [(pL, lamQ)] G)
    ⟨⟨_, _, _, _, _, _, _, _, rfl⟩, B1, hE1, pE1, hS1, pS1, hT1⟩ ?_ fun σ G ⟨⟨o4, o5, o6, o7, o8, o9, o10, o11, e⟩, _⟩ => k G⟩
  rintro i σ G hi ⟨⟨o4, o5, o6, o7, o8, o9, o10, o11, rfl⟩, BG, hE, pE, hS, pS, hTG⟩
  -- the readings
  refine ⟨_, rfl, _, rfl, bx, bi, S1, 200, ys, tbs Tb.new es, rfl, BG, hSb, hS, pS, by omega, by omega, fun G2 Rr vs rs B2 k2 nR hR pR hrl hbR => ?_⟩
  have hRb : ¬ bF bx bi Rr := new_nb BG nR
  have hE2 := k2.t.lst hE hEb
  refine ⟨_, rfl, E1, xs, rfl, .inl (SqL.of hE2), fun c1 nc1 => ?_⟩
  refine ⟨_, rfl, Rr, vs, rfl, .inl (SqL.of ((upd_ne (ne_of_none hR nc1)).trans hR)), fun c2 nc2 => ⟨sz 2 (by decide), fun t nt => ?_⟩⟩
  have j3 : Kp No G2 (upd (upd (upd G2 c1 (.lst xs)) c2 (.lst vs)) t (.tup [.ref c1, .ref c2])) := ((Kp.new nc1).andN nc2).andN nt
  have ht3 : upd (upd (upd G2 c1 (.lst xs)) c2 (.lst vs)) t (.tup [.ref c1, .ref c2]) t = some (.tup [.ref c1, .ref c2]) := upd_same
  have hc23 : upd (upd (upd G2 c1 (.lst xs)) c2 (.lst vs)) t (.tup [.ref c1, .ref c2]) c2 = some (.lst vs) := by rw [upd_ne (upd_none nt).1.symm, upd_same]
  have hc13 : upd (upd (upd G2 c1 (.lst xs)) c2 (.lst vs)) t (.tup [.ref c1, .ref c2]) c1 = some (.lst xs) := by rw [upd_ne (upd_none (upd_none nt).2).1.symm, upd_ne (upd_none nc2).1.symm, upd_same]
  generalize upd (upd (upd G2 c1 (.lst xs)) c2 (.lst vs)) t (.tup [.ref c1, .ref c2]) = G3 at j3 ht3 hc23 hc13 ⊢
  have k3 : Kp (bF bx bi) G G3 := k2.trans j3 fun _ z => False.elim z
  have nfG : ∀ b kvs, G b = some (.dK kvs) → ¬ bF bx bi b := box_nf BG
  have hE3 := k3.t.lst hE hEb
  have hS3 := k3.t.lst hS hSb
  have hR3 : G3 Rr = some (.lst vs) := j3.t.lst hR fun z => z
  have pE3 : Paired (EnAt G3) xs es := pE.mono fun _ _ z => z.kt k3.t
  have pS3 : Paired (SsAt 200 G3) ys (tbs Tb.new es) := pS.mono fun _ _ z => z.kt k3.t nfG
  have pR3 : Paired (RdAt G3) vs rs := pR.mono fun _ _ z => z.kt j3.t
  have B3 := B2.no j3
  have hT3 := k3.tabs hTG
  refine ⟨2, rfl, by decide, by decide, for_range (lo := 0) (n := (2 : Int).toNat) (fun j σ J => (∃ o7 o8 o9 o10 o11, σ = [some (.ref a), some (.ref bx), some (.ref E1), some (.ref S1), some (.int (0 + (i : Nat))), some (.ref Rr), some (.ref t), o7, o8, o9, o10, o11]) ∧ Kp No G3 J)
    ⟨⟨_, _, _, _, _, rfl⟩, Kp.refl _ _⟩ ?_ ?_⟩
  · rintro j σ J hj ⟨⟨o7, o8, o9, o10, o11, rfl⟩, kJ⟩
    have htJ := kJ.t.tup ht3
    refine ⟨_, rfl, t, _, 0, .ref c1, rfl, rfl, SqT.of htJ, rfl, _, rfl, t, _, 1, .ref c2, rfl, rfl, SqT.of htJ, rfl, ?_⟩
    refine ⟨c1, c2, xs, vs, es, rs, rfl, kJ.t.lst hc13 (fun z => z), pE3.mono (fun _ _ z => z.kt kJ.t), by omega, kJ.t.lst hc23 (fun z => z), pR3.mono (fun _ _ z => z.kt kJ.t), by omega, fun L kL => ⟨fun r z => by rw [hbE] at z; (cases z), fun _ => ⟨fun r z => by rw [hbR] at z; (cases z), fun _ => ?_⟩⟩⟩
    have kL3 : Kp No G3 L := kJ.trans kL fun _ z => False.elim z
    refine ⟨_, rfl, _, rfl, _, rfl, S1, Rr, 200, ys, vs, tbs Tb.new es, rs, rfl, kL3.t.lst hS3 (fun z => z), pS3.mono (fun _ _ z => z.kt kL3.t fun _ _ _ z => z), kL3.t.lst hR3 (fun z => z), pR3.mono (fun _ _ z => z.kt kL3.t), by omega, fun M kM => ?_⟩
    have kM3 : Kp No G3 M := kL3.trans kM fun _ z => False.elim z
    refine ⟨_, _, rfl, Al.leaf (leaf_oN _), true, rfl, iteF ?_⟩
    refine ⟨_, rfl, _, rfl, _, rfl, sz 2 (by decide), fun u nu => ?_⟩
    have ku : Kp No M (upd M u (.tup [.ref E1, .ref Rr])) := Kp.new nu
    have kU : Kp No G3 _ := kM3.trans ku fun _ z => False.elim z
    obtain ⟨d1, hd1⟩ := dt_all (K := K) (H := upd M u (.tup [.ref E1, .ref Rr])) (n := 3) (fun v a z => dt_en z) (pE3.mono fun _ _ z => z.kt kU.t)
    obtain ⟨d2, hd2⟩ := dt_all (K := K) (H := upd M u (.tup [.ref E1, .ref Rr])) (n := 3) (fun v a z => dt_rd z) (pR3.mono fun _ _ z => z.kt kU.t)
    have q1 : Dt K (upd M u (.tup [.ref E1, .ref Rr])) 5 (.ref t) (.tuple [.list d1, .list d2]) := Dt.tup (kU.t.tup ht3) ((Dt.lst (kU.t.lst hc13 fun z => z) hd1).cons ((Dt.lst (kU.t.lst hc23 fun z => z) hd2).cons (DtA.nil 4)))
    have q2 : Dt K (upd M u (.tup [.ref E1, .ref Rr])) 5 (.ref u) (.tuple [.list d1, .list d2]) := Dt.tup upd_same ((Dt.lst (kU.t.lst hE3 fun z => z) hd1).cons ((Dt.lst (kU.t.lst hR3 fun z => z) hd2).cons (DtA.nil 4)))
    obtain ⟨sh, eq⟩ := q1.same (u := .ref u) (by decide)
    refine ⟨_, _, q1.1, q2.1, sh, sh, _, rfl, ?_⟩
    rw [eq]
    exact iteF ⟨⟨_, _, _, _, _, rfl⟩, kU⟩
  · rintro σ J ⟨⟨o7, o8, o9, o10, o11, rfl⟩, kJ⟩
    have BJ := B3.no kJ
    refine ⟨_, rfl, _, rfl, _, rfl, bx, bi, E1, Rr, xs, vs, es, rs, rfl, BJ, hEb, hRb, kJ.t.lst hE3 (fun z => z), pE3.mono (fun _ _ z => z.kt kJ.t), hel, hbE, kJ.t.lst hR3 (fun z => z), pR3.mono (fun _ _ z => z.kt kJ.t), hrl, hbR, fun G4 p4 e4 r4 d4 xs4 es4 ys4 rs4 er B4 k4 hp4 he4 pe4 hl4 hr4 pr4 hrl4 hd4 heb hrb hodd => ?_⟩
    refine ⟨p4, _, rfl, SqT.of hp4, rfl, _, _, rfl, _, _, rfl, _, _, rfl, rfl, ?_⟩
    have k34 : Kp (bF bx bi) G3 G4 := (kJ.sub fun _ z => False.elim z).trans k4 fun _ z => .inl z
    have hT4 := k34.tabs hT3
    have nf3 : ∀ b kvs, G3 b = some (.dK kvs) → ¬ bF bx bi b := box_nf B3
    -- it is refused
    refine ⟨hT4, fun G5 eN hT5 => ?_⟩
    have t5 : Kt No G4 G5 := Kt.ext eN
    refine ⟨_, rfl, _, rfl, e4, r4, xs4, ys4, es4, rs4, rfl, t5.lst he4 (fun z => z), pe4.mono (fun _ _ z => z.kt t5), by omega, t5.lst hr4 (fun z => z), pr4.mono (fun _ _ z => z.kt t5), by omega, fun G6 k6 => odd_ends hodd (erx_of fun cls d I kI hE => ⟨er, hE, fun q L kL hq => ?_⟩)⟩
    have k5L : Kp No G5 L := (k6.trans kI fun _ z => False.elim z).trans kL fun _ z => False.elim z
    have t4L : Kt No G4 L := t5.trans k5L.t fun _ z => False.elim z
    have t3L : Kt (bF bx bi) G3 L := k34.t.trans t4L fun _ z => False.elim z
    refine ⟨_, rfl, _, _, rfl, .inr ⟨q, d4, _, _, rfl, rfl, .inl ⟨hq, t4L.tup hd4⟩, rfl, by show (2 : Int) < 2 ^ 62; decide, fun n x y hx hy => ?_⟩, true, rfl, iteF ⟨⟨_, _, _, _, _, _, _, _, rfl⟩, B4.kt t4L (fun _ z => False.elim z), t3L.lst hE3 hEb, pE3.mono (fun _ _ z => z.kt t3L), t3L.lst hS3 hSb, pS3.mono (fun _ _ z => z.kt t3L nf3), k5L.tabs hT5⟩⟩
    match n, hx, hy with
    | 0, hx, hy =>
      cases hx
      cases hy
      exact Al.leaf er.word_ok
    | 1, hx, hy =>
      cases hx
      cases hy
      exact Al.leaf rfl
    | n + 2, hx, hy => simp at hx
end
end S16

set_option Elab.async false
set_option linter.all false
set_option maxRecDepth 100000
set_option maxHeartbeats 2000000
/-! ### what the head tells beside names: the dicts of the top, the class with an __init__ of its own -/
namespace S16
open PySem PySem.Spec PyProof.Rows L2 K5 SupX
section
variable {K : PySem.W.Frag}
/-- a tuple's items -/
def itsOf (K : PySem.W.Frag) (a : Addr) : Option (List Value) := match K.lookup a with
  | some ⟨.type c, _, .seq its _, _⟩ => (if c = "tuple" ∧ its.size ≤ 1000 then some its.toList else none)
  | _ => none
theorem itsOf_ok {a : Addr} {vs : List Value} (h : itsOf K a = some vs) {xs : List V} (r : Vals xs vs) : WT K a xs := by
  unfold itsOf at h
  split at h
  · rename_i c d its n sl e
    split at h
    · rename_i z
      cases h
      refine ⟨_, its, n, e, congrArg Value.type z.1, rfl, ?_, r⟩
      have := z.2
      rw [sizeLine_eq]
      omega
    · cases h
  · cases h
def prB (K : PySem.W.Frag) (v : Value) (p : Int × Int) : Bool := match v with
  | .ref a => (match itsOf K a with
    | some [.int i _, .int j _] => decide (i = p.1) && decide (j = p.2)
    | _ => false)
  | _ => false
def prsB (K : PySem.W.Frag) : List Value → List (Int × Int) → Bool
  | [], [] => true
  | v :: vs, p :: ps => prB K v p && prsB K vs ps
  | _, _ => false
theorem prB_ok {v : Value} {p : Int × Int} (h : prB K v p = true) : ∃ a, v = .ref a ∧ WT K a [.int p.1, .int p.2] := by
  unfold prB at h
  split at h
  · rename_i a
    split at h
    · rename_i i ti j tj e
      obtain ⟨h1, h2⟩ := Bool.and_eq_true_iff.mp h
      rw [← of_decide_eq_true h1, ← of_decide_eq_true h2]
      exact ⟨a, rfl, itsOf_ok e (.cons ⟨ti, rfl⟩ (.cons ⟨tj, rfl⟩ .nil))⟩
    · cases h
  · cases h
theorem prsB_ok : ∀ {vs : List Value} {ps : List (Int × Int)}, prsB K vs ps = true → ∃ as : List Addr, vs = as.map Value.ref ∧ Paired (fun a p => WT K a [.int p.1, .int p.2]) as ps
  | [], [], _ => ⟨[], rfl, .nil⟩
  | [], _ :: _, h => by cases h
  | _ :: _, [], h => by cases h
  | v :: vs, p :: ps, h => by
    obtain ⟨h1, h2⟩ := Bool.and_eq_true_iff.mp (show (prB K v p && prsB K vs ps) = true from h)
    obtain ⟨a, e, w⟩ := prB_ok h1
    obtain ⟨as, e2, w2⟩ := prsB_ok h2
    exact ⟨a :: as, by rw [e, e2]; rfl, .cons w w2⟩
def bdB (K : PySem.W.Frag) (b : Addr) (l : List (Int × Int)) : Bool := match itsOf K b with
  | some vs => prsB K vs l
  | none => false
theorem vals_refs : ∀ as : List Addr, Vals (as.map V.ref) (as.map Value.ref)
  | [] => .nil
  | _ :: as => .cons rfl (vals_refs as)
theorem bdB_ok {b : Addr} {l : List (Int × Int)} (h : bdB K b l = true) : BndAt K b l := by
  unfold bdB at h
  split at h
  · rename_i vs e
    obtain ⟨as, e2, w⟩ := prsB_ok h
    exact ⟨as, itsOf_ok e (by rw [e2]; exact vals_refs as), w⟩
  · cases h
/-- what stands in a dict under a text -/
def vA (K : PySem.W.Frag) (B : Addr) (x : Str) : Addr := match PySem.W.nsIn K B x with
  | some (some (.ref a)) => a
  | _ => 0
def isA (K : PySem.W.Frag) (B : Addr) (x : Str) (a : Addr) : Bool := decide (PySem.W.nsIn K B x = some (some (.ref a)))
abbrev gB (K : PySem.W.Frag) : Addr := He.ga K "BOUNDS"
abbrev gC (K : PySem.W.Frag) : Addr := He.ga K "ACTIONS"
abbrev gX (K : PySem.W.Frag) : Addr := He.ga K "BadDeal"
abbrev gI (K : PySem.W.Frag) : Addr := He.ma K (gX K) "__init__"
def boundsB (K : PySem.W.Frag) (x : Str) (l : List (Int × Int)) : Bool := isA K (gB K) x (vA K (gB K) x) && bdB K (vA K (gB K) x) l
theorem boundsB_ok {x : Str} {l : List (Int × Int)} (h : boundsB K x l = true) : ∃ b, PySem.W.nsIn K (gB K) x = some (some (.ref b)) ∧ BndAt K b l := by
  obtain ⟨h1, h2⟩ := Bool.and_eq_true_iff.mp (show (isA K (gB K) x (vA K (gB K) x) && bdB K (vA K (gB K) x) l) = true from h)
  exact ⟨_, of_decide_eq_true h1, bdB_ok h2⟩
/-! the class's __init__ -/
abbrev FnY : Type := Option (Str × Str × Arguments × FuncBody × Scope × Addr × List Str × Value × Addr)
def fnY (K : PySem.W.Frag) : FnY := match K.lookup (gI K) with
  | some ⟨_, _, .func f, _⟩ => some (f.name, f.qualname, f.params, f.body, f.scope, f.globals, f.closure.map (·.1), f.defaults, f.builtins)
  | _ => none
def cellB (K : PySem.W.Frag) (l : List (Str × Addr)) : Bool := match l with
  | [(_, c)] => (match K.lookup c with
    | some ⟨_, _, .cell (some (.ref D)), _⟩ => decide (D = gX K)
    | _ => false)
  | _ => false
def fileB (K : PySem.W.Frag) (c : Value) : Bool := match c with
  | .ref a => (match K.lookup a with
    | some ⟨_, _, .fields vs, _⟩ => (match (vs[2]? : Option Value) with
      | some (Value.str file _) => ("/claim/cut.py" : Str) == file
      | _ => false)
    | _ => false)
  | _ => false
def funB (K : PySem.W.Frag) : Bool := match K.lookup (gI K) with
  | some ⟨_, _, .func f, _⟩ => cellB K f.closure && (PySem.W.codeIn K f.code "BadDeal.__init__" && fileB K f.code)
  | _ => false
def initB (K : PySem.W.Frag) : Bool := funB K && (decide (PySem.W.findIn K (.ref (gX K)) "__init__" = some (some (.ref (gI K)))) && decide (PySem.W.typeIn K (.ref (gI K)) = some (.type "function")))
theorem initB_ok {P : Program} {st : Stmt} (hf : P.main.file = ("/claim/cut.py" : Str)) (e : fnY K = (some ("__init__", "BadDeal.__init__", defArgs st, .stmts (defBody st), defScope st, mainGlobals, ["__class__"], .none, builtinsNs) : FnY)) (h : initB K = true) :
    InitAt P K (gX K) (gI K) "BadDeal.__init__" st := by
  obtain ⟨h1, h⟩ := Bool.and_eq_true_iff.mp h
  obtain ⟨h2, h3⟩ := Bool.and_eq_true_iff.mp h
  refine ⟨?_, of_decide_eq_true h2, of_decide_eq_true h3⟩
  unfold fnY at e
  unfold funB at h1
  split at h1
  · rename_i oc od fd osl lk
    rw [lk] at e
    obtain ⟨c1, h1⟩ := Bool.and_eq_true_iff.mp h1
    obtain ⟨c2, c3⟩ := Bool.and_eq_true_iff.mp h1
    obtain ⟨n1, n2, n3, n4, n5, n6, n7, n8, n9, n10, n11, n12, n13, n14, n15⟩ := fd
    have e2 := Option.some.inj e
    simp only [Prod.mk.injEq] at e2
    obtain ⟨q1, q2, q3, q4, q5, q6, q7, q8, q9⟩ := e2
    subst q1 q2 q3 q4 q5 q6 q8 q9
    unfold cellB at c1
    split at c1
    · rename_i x cc lc
      split at c1
      · rename_i cl cld D csl e4
        have eD : D = gX K := of_decide_eq_true c1
        subst eD
        dsimp only at lc
        rw [lc] at q7
        have ex : x = "__class__" := List.head_eq_of_cons_eq (show [x] = [("__class__" : Str)] from q7)
        unfold fileB at c3
        split at c3
        · rename_i cda ecd
          split at c3
          · rename_i ccl cdd vs ccs e5
            split at c3
            · rename_i file tf e6
              dsimp only at c2 ecd
              subst lc ecd ex
              exact ⟨oc, od, n9, n10, n11, n12, cda, cc, n14, osl, ccl, cdd, vs, ccs, file, tf, cl, cld, csl, lk, c2, e5, e6, by rw [hf]; exact c3, e4⟩
            · cases c3
          · cases c3
        · cases c3
      · cases c1
    · cases c1
  · cases h1
/-! the class itself -/
def slB (l : List (Option Value)) : Bool := match l with
  | [_, _, _, _, some (Value.builtin n), _] => decide (n = "ValueError.__new__")
  | _ => false
theorem slB_ok {l : List (Option Value)} (h : slB l = true) : ∃ k0 k1 k2 k3 k5, l = [k0, k1, k2, k3, some (Value.builtin "ValueError.__new__"), k5] := by
  unfold slB at h
  split at h
  · rename_i k0 k1 k2 k3 n k5
    rw [of_decide_eq_true h]
    exact ⟨k0, k1, k2, k3, k5, rfl⟩
  · cases h
def mroB (C : Addr) (l : List Value) : Bool := match l with
  | .ref D :: bm => decide (D = C) && PySem.HandSPX.refsVE bm
  | _ => false
theorem mroB_ok {C : Addr} {l : List Value} (h : mroB C l = true) : ∃ bm, l = .ref C :: bm ∧ PySem.HandSPX.refsVE bm = true := by
  unfold mroB at h
  split at h
  · rename_i D bm
    obtain ⟨h1, h2⟩ := Bool.and_eq_true_iff.mp h
    rw [of_decide_eq_true h1]
    exact ⟨bm, rfl, h2⟩
  · cases h
def cdB (C : Addr) (cd : ClassData) (sl : Array (Option Value)) : Bool := mroB C cd.mro && (cd.hasDict && (!cd.hasDel && slB sl.toList))
theorem cdB_ok {C : Addr} {cd : ClassData} {sl : Array (Option Value)} {dd : Option Addr} (h : cdB C cd sl = true) :
    ∃ nm q N bs bm sn sub ab col k0 k1 k2 k3 k5, (⟨.type "type", dd, .cls cd, sl⟩ : Obj) = excClassObj nm q C N bs bm true sn sub ab col dd k0 k1 k2 k3 k5 "ValueError.__new__" ∧ PySem.HandSPX.refsVE bm = true := by
  obtain ⟨z1, h⟩ := Bool.and_eq_true_iff.mp h
  obtain ⟨z2, h⟩ := Bool.and_eq_true_iff.mp h
  obtain ⟨z3, z4⟩ := Bool.and_eq_true_iff.mp h
  obtain ⟨bm, hm, hv⟩ := mroB_ok z1
  obtain ⟨k0, k1, k2, k3, k5, hs⟩ := slB_ok z4
  obtain ⟨nm, bs, mro, ns, qn, hd, sn, sub, ab, col, del⟩ := cd
  dsimp only at hm z2 z3
  subst hm z2
  have ed : del = false := by
    cases del
    · rfl
    · cases z3
  subst ed
  obtain ⟨l⟩ := sl
  dsimp only at hs
  subst hs
  exact ⟨nm, qn, ns, bs, bm, sn, sub, ab, col, k0, k1, k2, k3, k5, rfl, hv⟩
def clO (K : PySem.W.Frag) (C : Addr) : Bool := match K.lookup C with
  | some ⟨.type t, _, .cls cd, sl⟩ => decide (t = "type") && cdB C cd sl
  | _ => false
theorem clO_ok {K : PySem.W.Frag} {C : Addr} (h : clO K C = true) : ∃ nm q N bs bm sn sub ab col dd k0 k1 k2 k3 k5, K.lookup C = some (excClassObj nm q C N bs bm true sn sub ab col dd k0 k1 k2 k3 k5 "ValueError.__new__") ∧ PySem.HandSPX.refsVE bm = true := by
  unfold clO at h
  split at h
  · rename_i t dd cd sl lk
    obtain ⟨h1, h2⟩ := Bool.and_eq_true_iff.mp h
    rw [of_decide_eq_true h1] at lk
    obtain ⟨nm, q, N, bs, bm, sn, sub, ab, col, k0, k1, k2, k3, k5, e, hv⟩ := cdB_ok (dd := dd) h2
    exact ⟨nm, q, N, bs, bm, sn, sub, ab, col, dd, k0, k1, k2, k3, k5, lk.trans (congrArg some e), hv⟩
  · cases h
def oexB (K : PySem.W.Frag) (C : Addr) : Bool := clO K C && (decide (PySem.W.findIn K (.ref C) "__setattr__" = some (some (.builtin "object.__setattr__"))) && (decide (PySem.W.subIn K (.ref C) (.type "BaseException") = some true) && (decide (PySem.W.typeIn K (.ref C) = some (.type "type")) && PySem.W.keepIn K (.ref C))))
theorem oexB_ok {K : PySem.W.Frag} {C : Addr} (h : oexB K C = true) : OexC K C := by
  obtain ⟨h1, h⟩ := Bool.and_eq_true_iff.mp h
  obtain ⟨h2, h⟩ := Bool.and_eq_true_iff.mp h
  obtain ⟨h3, h⟩ := Bool.and_eq_true_iff.mp h
  obtain ⟨h4, h5⟩ := Bool.and_eq_true_iff.mp h
  obtain ⟨nm, q, N, bs, bm, sn, sub, ab, col, dd, k0, k1, k2, k3, k5, lk, hv⟩ := clO_ok h1
  exact ⟨⟨nm, q, N, bs, bm, sn, sub, ab, col, dd, k0, k1, k2, k3, k5, lk, hv⟩, of_decide_eq_true h2, of_decide_eq_true h3, of_decide_eq_true h4, h5⟩
def clsB (K : PySem.W.Frag) : Bool := oexB K (gX K) && (decide (PySem.W.mroIn K (gX K) (.ref (gX K)) = some true) && (decide (PySem.W.ks_superIn K (gX K) (gX K) "__init__" = some (some (.builtin "ValueError.__init__"))) &&
  (decide (PySem.W.subIn K (.ref (gX K)) (.type "ValueError") = some true) && (decide (PySem.W.nsIn K PySem.cStatics "thirdparty.any" = some none) && decide (PySem.W.findIn K (.ref (gX K)) "place" = some none)))))
theorem clsB_ok {mg : Str → Option Value} (hs : mg "super" = none) (h : clsB K = true) : ClsAt K mg (gX K) "place" := by
  obtain ⟨h1, h⟩ := Bool.and_eq_true_iff.mp h
  obtain ⟨h2, h⟩ := Bool.and_eq_true_iff.mp h
  obtain ⟨h3, h⟩ := Bool.and_eq_true_iff.mp h
  obtain ⟨h4, h⟩ := Bool.and_eq_true_iff.mp h
  obtain ⟨h5, h6⟩ := Bool.and_eq_true_iff.mp h
  exact ⟨oexB_ok h1, of_decide_eq_true h2, of_decide_eq_true h3, of_decide_eq_true h4, of_decide_eq_true h5, of_decide_eq_true h6, hs⟩
/-! isinstance -/
def excB (K : PySem.W.Frag) (D : Addr) : Bool := decide (PySem.W.findIn K (.ref D) "__getattribute__" = some (some (.builtin "BaseException.__getattribute__"))) && (decide (PySem.W.findIn K (.ref D) "__getattr__" = some none) &&
  (decide (PySem.W.subIn K (.ref D) (.type "BaseException") = some true) && (PySem.W.hasDictIn K D && (decide (PySem.W.findIn K (.ref D) "__class__" = some (some (.builtin "object.__class__"))) &&
  (decide (PySem.W.specialIn K (.builtin "object.__class__") "__get__" = some (some (.builtin "getset_descriptor.__get__"))) && (decide (PySem.W.takesIn K (.builtin "object.__class__") = some true) && decide (PySem.W.mroIn K D (.type "object") = some true)))))))
theorem excB_ok {D : Addr} (h : excB K D = true) : ExcC K D := by
  obtain ⟨h1, h⟩ := Bool.and_eq_true_iff.mp h
  obtain ⟨h2, h⟩ := Bool.and_eq_true_iff.mp h
  obtain ⟨h3, h⟩ := Bool.and_eq_true_iff.mp h
  obtain ⟨h4, h⟩ := Bool.and_eq_true_iff.mp h
  obtain ⟨h5, h⟩ := Bool.and_eq_true_iff.mp h
  obtain ⟨h6, h⟩ := Bool.and_eq_true_iff.mp h
  obtain ⟨h7, h8⟩ := Bool.and_eq_true_iff.mp h
  exact ⟨of_decide_eq_true h1, of_decide_eq_true h2, of_decide_eq_true h3, h4, of_decide_eq_true h5, of_decide_eq_true h6, of_decide_eq_true h7, of_decide_eq_true h8⟩
def clsN (i : Nat) : Str := match i with
  | 0 => "BadDeal"
  | 1 => "BadHand"
  | 2 => "BadLetter"
  | 3 => "BadTime"
  | 4 => "BadKey"
  | 5 => "BadHouse"
  | 6 => "NoCopy"
  | 7 => "Behind"
  | 8 => "BadBlock"
  | 9 => "BadEntry"
  | 10 => "BadText"
  | _ => "Stopped"
def cisB (K : PySem.W.Frag) (j : Nat) : Bool := excB K (He.ga K (clsN j)) && (((List.range 12).all fun i => decide (PySem.W.kitOne K (.ref (He.ga K (clsN j))) (.ref (He.ga K (clsN i))) = some (decide (i = j)))) &&
  (decide (PySem.W.kitOne K (.ref (He.ga K (clsN j))) (.type "ValueError") = some true) && decide (PySem.W.exmOne K (.ref (He.ga K (clsN j))) (.ref (He.ga K "StillError")) = some true)))
structure CisN (K : PySem.W.Frag) (j : Nat) : Prop where
  ex : ExcC K (He.ga K (clsN j))
  is : ∀ i, i < 12 → PySem.W.kitOne K (.ref (He.ga K (clsN j))) (.ref (He.ga K (clsN i))) = some (decide (i = j))
  ve : PySem.W.kitOne K (.ref (He.ga K (clsN j))) (.type "ValueError") = some true
  still : PySem.W.exmOne K (.ref (He.ga K (clsN j))) (.ref (He.ga K "StillError")) = some true
theorem cisB_ok {j : Nat} (h : cisB K j = true) : CisN K j := by
  obtain ⟨h1, h⟩ := Bool.and_eq_true_iff.mp h
  obtain ⟨h2, h⟩ := Bool.and_eq_true_iff.mp h
  obtain ⟨h3, h4⟩ := Bool.and_eq_true_iff.mp h
  exact ⟨excB_ok h1, fun i hi => of_decide_eq_true (List.all_eq_true.mp h2 i (List.mem_range.mpr hi)), of_decide_eq_true h3, of_decide_eq_true h4⟩
/-- all of it -/
def exB (K : PySem.W.Frag) : Bool := (boundsB K "put" [(0, 31), (0, 999), (0, 1000)] && (boundsB K "drop" [(0, 31)] && (boundsB K "add" [(0, 31), (-999, 999)] && boundsB K "if" [(0, 31), (0, 999)]))) &&
  ((isA K (gC K) "put" (He.ga K "put_row") && (isA K (gC K) "drop" (He.ga K "drop_row") && (isA K (gC K) "add" (He.ga K "add_to_row") && isA K (gC K) "if" (He.ga K "does_show")))) &&
  (initB K && (clsB K && (cisB K 0 && (cisB K 1 && (cisB K 4 && cisB K 9))))))
end
/-! ### the head: its own reach, the __init__ beside -/
section
variable {fa : List He.Fa} {fn : List He.DefD} {ts : List He.Tab} {tf : List He.Defn} {ex : PySem.W.Frag → Bool} {w : World}
def asY (g : Addr → Option Obj) : List Addr := He.asD g 5 ++ [PySem.cStatics]
abbrev kY (g : Addr → Option Obj) : PySem.W.Frag := He.frT g (asY g)
abbrev AlY : Type := He.AlX × FnY
def obsY (fa : List He.Fa) (fn : List He.DefD) (ts : List He.Tab) (tf : List He.Defn) (ex : PySem.W.Frag → Bool) (g : Addr → Option Obj) : AlY := ((He.obsT fa fn ts (kY g), ex (kY g) && He.tabsB g tf (kY g)), fnY (kY g))
theorem says_gen {as : List Addr} {h : Heap} (e1 : He.obsT fa fn ts (He.frT h.get? as) = He.valT fn ts w) (e2 : (ex (He.frT h.get? as) && He.tabsB h.get? tf (He.frT h.get? as)) = true) : He.SaysX fa fn ts tf ex w h (He.frT h.get? as) := by
  obtain ⟨b1, b2⟩ := Bool.and_eq_true_iff.mp e2
  have c : ∀ p ∈ tf, PySem.W.codeHdIn (He.frT h.get? as) (He.cT (He.frT h.get? as) p).1 (He.cT (He.frT h.get? as) p).2 = true ∧ ∃ o, h.get? (He.cT (He.frT h.get? as) p).2 = some o ∧ He.emptyTab o = true := fun p m => by
    obtain ⟨a1, a2⟩ := Bool.and_eq_true_iff.mp (List.all_eq_true.mp b2 p m)
    refine ⟨a1, ?_⟩
    split at a2
    · rename_i o q
      exact ⟨o, q, a2⟩
    · cases a2
  refine ⟨e1, b1, fun p m => (c p m).1, fun p m => ?_, fun p m => ?_⟩
  · obtain ⟨_, o, q, z⟩ := c p m
    exact He.frT_none q z
  · obtain ⟨_, o, q, z⟩ := c p m
    rw [q, He.emptyTab_eq z]
/-- what the end leans on -/
structure SaysY (fa : List He.Fa) (fn : List He.DefD) (ts : List He.Tab) (tf : List He.Defn) (ex : PySem.W.Frag → Bool) (fy : FnY) (w : World) (h : Heap) (K : PySem.W.Frag) : Prop where
  x : He.SaysX fa fn ts tf ex w h K
  y : fnY K = fy
theorem ofY {fy : FnY} {h : Heap} (e : obsY fa fn ts tf ex h.get? = ((He.valT fn ts w, true), fy)) : ∃ K : PySem.W.Frag, K.In h ∧ SaysY fa fn ts tf ex fy w h K := by
  unfold obsY at e
  obtain ⟨e12, e3⟩ := Prod.mk.inj e
  obtain ⟨e1, e2⟩ := Prod.mk.inj e12
  exact ⟨kY h.get?, He.frT_in, ⟨says_gen e1 e2, e3⟩⟩
theorem keepY {fy : FnY} {h h' : Heap} (y : ∃ K : PySem.W.Frag, K.In h ∧ SaysY fa fn ts tf ex fy w h K) (k : ∀ b o, h.get? b = some o → h'.get? b = some o) : ∃ K : PySem.W.Frag, K.In h' ∧ SaysY fa fn ts tf ex fy w h' K := by
  obtain ⟨K, hK, c⟩ := y
  exact ⟨K, PySem.W.Frag.In.keeps hK k, ⟨⟨c.x.t, c.x.more, c.x.hd, c.x.out, fun p m => k _ _ (c.x.empty p m)⟩, c.y⟩⟩
def hookY (fa : List He.Fa) (fn : List He.DefD) (ts : List He.Tab) (tf : List He.Defn) (ex : PySem.W.Frag → Bool) (fy : FnY) : PySem.W.Hook where
  α := AlY
  obs := fun s => obsY fa fn ts tf ex s.heap.get?
  val := fun w => ((He.valT fn ts w, true), fy)
  says := fun w h => ∃ K : PySem.W.Frag, K.In h ∧ SaysY fa fn ts tf ex fy w h K
  of := fun _ _ e => ofY e
  keeps := fun _ _ _ y k => keepY y k
theorem obsY_eq {fy : FnY} {g : Addr → Option Obj} {s : Shared} (h : ∀ a, g a = s.heap.get? a) : obsY fa fn ts tf ex g = (hookY fa fn ts tf ex fy).obs s := by
  have e : g = s.heap.get? := funext h
  rw [e] <;> rfl
end
end S16

set_option Elab.async false
set_option linter.all false
set_option maxRecDepth 100000
set_option maxHeartbeats 0
namespace S16
open PySem PySem.Spec PyProof.Rows L2 K5 SupX
def fn0 : List He.DefD := [⟨("within", none), "within", "within", defArgs s_within, defBody s_within, defScope s_within, [], []⟩, ⟨("check_hand", none), "check_hand", "check_hand", defArgs s_check_hand, defBody s_check_hand, defScope s_check_hand, [], []⟩, ⟨("check_key", none), "check_key", "check_key", defArgs s_check_key, defBody s_check_key, defScope s_check_key, [], []⟩, ⟨("is_deed", none), "is_deed", "is_deed", defArgs s_is_deed, defBody s_is_deed, defScope s_is_deed, [], []⟩, ⟨("check_deal", none), "check_deal", "check_deal", defArgs s_check_deal, defBody s_check_deal, defScope s_check_deal, [], []⟩, ⟨("is_shown", none), "is_shown", "is_shown", defArgs s_is_shown, defBody s_is_shown, defScope s_is_shown, [], []⟩, ⟨("shown_worth", none), "shown_worth", "shown_worth", defArgs s_shown_worth, defBody s_shown_worth, defScope s_shown_worth, [], []⟩, ⟨("put_row", none), "put_row", "put_row", defArgs s_put_row, defBody s_put_row, defScope s_put_row, [], []⟩, ⟨("drop_row", none), "drop_row", "drop_row", defArgs s_drop_row, defBody s_drop_row, defScope s_drop_row, [], []⟩, ⟨("add_to_row", none), "add_to_row", "add_to_row", defArgs s_add_to_row, defBody s_add_to_row, defScope s_add_to_row, [], []⟩, ⟨("does_show", none), "does_show", "does_show", defArgs s_does_show, defBody s_does_show, defScope s_does_show, [], []⟩, ⟨("rows_behind", none), "rows_behind", "rows_behind", defArgs s_rows_behind, defBody s_rows_behind, defScope s_rows_behind, [], []⟩]
def fn1 : List He.DefD := [⟨("check_entry", none), "check_entry", "check_entry", defArgs s_check_entry, defBody s_check_entry, defScope s_check_entry, [], []⟩, ⟨("tables_behind", none), "tables_behind", "tables_behind", defArgs s_tables_behind, defBody s_tables_behind, defScope s_tables_behind, [], []⟩, ⟨("shows", none), "shows", "shows", defArgs s_shows, defBody s_shows, defScope s_shows, [], []⟩, ⟨("judge", none), "judge", "judge", defArgs s_judge, defBody s_judge, defScope s_judge, [], []⟩, ⟨("_law_begun", none), "_law_begun", "_law_begun", defArgs s_begun, defBody s_begun, defScope s_begun, [], []⟩, ⟨("_law_take", none), "_law_take", "_law_take", defArgs s_take, defBody s_take, defScope s_take, [], []⟩, ⟨("_law_alike", none), "_law_alike", "_law_alike", defArgs s_alike, defBody s_alike, defScope s_alike, [], []⟩, ⟨("_law_class", none), "_law_class", "_law_class", defArgs s_class, defBody s_class, defScope s_class, [], []⟩, ⟨("_law_refused", none), "_law_refused", "_law_refused", defArgs s_refused, defBody s_refused, defScope s_refused, [], []⟩, ⟨("_law_all", none), "_law_all", "_law_all", defArgs s_all, defBody s_all, defScope s_all, [], []⟩, ⟨("_law_store", none), "_law_store", "_law_store", defArgs s_store, defBody s_store, defScope s_store, [], []⟩, ⟨("_law_again", none), "_law_again", "_law_again", defArgs s_again, defBody s_again, defScope s_again, [], []⟩]
def fn2 : List He.DefD := [⟨("_law_seen", none), "_law_seen", "_law_seen", defArgs s_seen, defBody s_seen, defScope s_seen, [], []⟩, ⟨("_law_tried", none), "_law_tried", "_law_tried", defArgs s_tried, defBody s_tried, defScope s_tried, [], []⟩, ⟨("_law_deal", none), "_law_deal", "_law_deal", defArgs s_deal, defBody s_deal, defScope s_deal, [], []⟩, ⟨("_law_whole", none), "_law_whole", "_law_whole", defArgs s_whole, defBody s_whole, defScope s_whole, [], []⟩, ⟨("_law_deed", none), "_law_deed", "_law_deed", defArgs s_deed, defBody s_deed, defScope s_deed, [], []⟩, ⟨("_law_drawn", none), "_law_drawn", "_law_drawn", defArgs s_drawn, defBody s_drawn, defScope s_drawn, [], []⟩, ⟨("_law_entries", none), "_law_entries", "_law_entries", defArgs s_entries, defBody s_entries, defScope s_entries, [], []⟩, ⟨("_law_readings", none), "_law_readings", "_law_readings", defArgs s_readings, defBody s_readings, defScope s_readings, [], []⟩, ⟨("_law_due", none), "_law_due", "_law_due", defArgs s_due, defBody s_due, defScope s_due, [], []⟩, ⟨("_law_odd", none), "_law_odd", "_law_odd", defArgs s_odd, defBody s_odd, defScope s_odd, [], []⟩, ⟨("law", none), "law", "law", defArgs s_law, defBody s_law, defScope s_law, [], []⟩]
def fn : List He.DefD := fn0 ++ (fn1 ++ (fn2))
def fa0 : List He.Fa := [.glo "within", .glo "check_hand", .glo "check_key", .glo "is_deed", .glo "check_deal", .glo "is_shown", .glo "shown_worth", .glo "put_row", .glo "drop_row", .glo "add_to_row", .glo "does_show", .glo "rows_behind", .glo "check_entry", .glo "tables_behind", .glo "shows", .glo "judge", .glo "_law_begun", .glo "_law_take", .glo "_law_alike", .glo "_law_class", .glo "_law_refused", .glo "_law_all", .glo "_law_store", .glo "_law_again", .glo "_law_seen", .glo "_law_tried", .glo "_law_deal", .glo "_law_whole", .glo "_law_deed", .glo "_law_drawn"]
def fa1 : List He.Fa := [.glo "_law_entries", .glo "_law_readings", .glo "_law_due", .glo "_law_odd", .glo "law", .glo "StillError", .glo "BadDeal", .glo "BadHand", .glo "BadLetter", .glo "BadTime", .glo "BadKey", .glo "BadHouse", .glo "NoCopy", .glo "Behind", .glo "BadBlock", .glo "BadEntry", .glo "BadText", .glo "Stopped", .exc "BadHand", .exm "BadHand" "StillError" true, .exc "BadLetter", .exm "BadLetter" "StillError" true, .exc "BadTime", .exm "BadTime" "StillError" true, .exc "BadKey", .exm "BadKey" "StillError" true, .exc "BadHouse", .exm "BadHouse" "StillError" true, .exc "NoCopy", .exm "NoCopy" "StillError" true]
def fa2 : List He.Fa := [.exc "BadBlock", .exm "BadBlock" "StillError" true, .exc "BadEntry", .exm "BadEntry" "StillError" true, .exc "Stopped", .exm "Stopped" "StillError" true, .int "LAST_KEY" 31, .int "LAST_HAND" 3, .int "LAST_WORTH" 999, .int "LAST_MOMENT" 1000000, .int "MOST_DEEDS" 4, .free "ValueError", .free "all", .free "bool", .free "dict", .free "enumerate", .free "int", .free "isinstance", .free "len", .free "list", .free "max", .free "min", .free "range", .free "sorted", .free "str", .free "tuple", .free "zip"]
def fa3 : List He.Fa := [.glo "BOUNDS", .glo "ACTIONS", .free "super"]
def fa : List He.Fa := fa0 ++ (fa1 ++ (fa2 ++ (fa3)))
def tf : List He.Defn := [("law", none)]
def ts : List He.Tab := [((fun K => He.ga K "BOUNDS"), ["put", "drop", "add", "if"]), ((fun K => He.ga K "ACTIONS"), ["put", "drop", "add", "if"])]
def fy : FnY := some ("__init__", "BadDeal.__init__", defArgs s_BadDeal___init__, .stmts (defBody s_BadDeal___init__), defScope s_BadDeal___init__, mainGlobals, ["__class__"], .none, builtinsNs)
def loose0 : List PySem.Str := ["within", "check_hand", "check_key", "is_deed", "check_deal", "is_shown", "shown_worth", "put_row", "drop_row", "add_to_row", "does_show", "rows_behind", "check_entry", "tables_behind", "shows", "judge", "_law_begun", "_law_take", "_law_alike", "_law_class", "_law_refused", "_law_all", "_law_store", "_law_again", "_law_seen", "_law_tried", "_law_deal", "_law_whole", "_law_deed", "_law_drawn"]
def loose1 : List PySem.Str := ["_law_entries", "_law_readings", "_law_due", "_law_odd", "StillError", "BadDeal", "BadHand", "BadLetter", "BadTime", "BadKey", "BadHouse", "NoCopy", "Behind", "BadBlock", "BadEntry", "BadText", "Stopped", "LAST_KEY", "LAST_HAND", "LAST_WORTH", "LAST_MOMENT", "MOST_DEEDS", "BOUNDS", "ACTIONS"]
def loose : List PySem.Str := loose0 ++ (loose1)
abbrev R : PySem.W.OpenRow := PySem.W.OpenLaw.row PySem.Challenge.rw_stillcopy_k16_readings_judged
abbrev hk : PySem.W.Hook := hookY fa fn ts tf exB fy
def ob (s : PySem.W.SharedT) : AlY := obsY fa fn ts tf exB (HandSHeadRun.getT s)
theorem ob_eq (s : PySem.W.SharedT) : ob s = hk.obs s.abs := obsY_eq (HandSHeadRun.getT_eq s)
theorem run (w : World) : HandSHeadRun.RunEq R (PySem.W.view R.prog [59]) hk ob 12000 loose w :=
  PySem.W.byRow2 "special-get-raises" (fun w => by intro os; kernel_rfl) (fun w => by intro os; kernel_rfl) w
end S16

set_option Elab.async false
set_option linter.all false
set_option maxRecDepth 100000
set_option maxHeartbeats 8000000
namespace S16
open PySem PySem.Spec PyProof.Rows L2 LamX K5 SupX
section
variable {K : PySem.W.Frag} {x q : Str} {st : Stmt} {f : Addr}
theorem fun_ofD (F : ∃ fd, FunD K x q (defArgs st) (defBody st) (defScope st) [] [] f fd) : ∃ fd, Fun K x q st f fd := by
  obtain ⟨fd, F⟩ := F
  obtain ⟨oc, od, dV, kV, doc, pm, an, cdv, ct, osl, rfl, lk, hcd, hD, _⟩ := F.ex
  rcases hD with ⟨_, rfl⟩ | ⟨e, _⟩
  · exact ⟨_, fun_mk lk hcd F.kp⟩
  · exact absurd rfl e
theorem fnC_ofD {p : Str × Option Str} (F : ∃ fd, FunD K x q (defArgs st) (defBody st) (defScope st) [] [] (He.fAd K p) fd) : FnC K x q st (He.fAd K p) (He.cT K p).1 := by
  obtain ⟨fd, F⟩ := F
  obtain ⟨oc, od, dV, kV, doc, pm, an, cdv, ct, osl, rfl, lk, hcd, hD, _⟩ := F.ex
  rcases hD with ⟨_, rfl⟩ | ⟨e, _⟩
  · obtain ⟨c, rfl⟩ := He.codeIn_ref hcd
    have e : He.codeOf K p = c := He.codeOf_eq lk rfl
    subst e
    exact ⟨⟨_, _, _, _, _, _, _, _, lk, hcd⟩, F.kp⟩
  · exact absurd rfl e
theorem mk_meth {C : Addr} (M : Mk K C f) (F : ∃ fd, Fun K "__init__" q st f fd) : Meth K C "__init__" f := by
  obtain ⟨_, F⟩ := F
  exact ⟨M.init, M.fn, F.kp⟩
end
def adOf (K : PySem.W.Frag) : Ad := ⟨(fun i => match i with | 20 => He.ga K "within" | 23 => He.ga K "check_hand" | 24 => He.ga K "check_key" | 25 => He.ga K "is_deed" | 26 => He.ga K "check_deal" | 27 => He.ga K "is_shown" | 28 => He.ga K "shown_worth" | 29 => He.ga K "put_row" | 30 => He.ga K "drop_row" | 31 => He.ga K "add_to_row" | 32 => He.ga K "does_show" | 34 => He.ga K "rows_behind" | 36 => He.ga K "check_entry" | 37 => He.ga K "tables_behind" | 38 => He.ga K "shows" | 39 => He.ga K "judge" | 41 => He.ga K "_law_begun" | 42 => He.ga K "_law_take" | 43 => He.ga K "_law_alike" | 44 => He.ga K "_law_class" | 45 => He.ga K "_law_refused" | 46 => He.ga K "_law_all" | 47 => He.ga K "_law_store" | 48 => He.ga K "_law_again" | 49 => He.ga K "_law_seen" | 50 => He.ga K "_law_tried" | 51 => He.ga K "_law_deal" | 52 => He.ga K "_law_whole" | 53 => He.ga K "_law_deed" | 54 => He.ga K "_law_drawn" | 55 => He.ga K "_law_entries" | 56 => He.ga K "_law_readings" | 57 => He.ga K "_law_due" | 58 => He.ga K "_law_odd" | 59 => He.ga K "law" | _ => 0), (fun i => match i with | 1 => He.ga K "StillError" | 2 => He.ga K "BadDeal" | 3 => He.ga K "BadHand" | 4 => He.ga K "BadLetter" | 5 => He.ga K "BadTime" | 6 => He.ga K "BadKey" | 7 => He.ga K "BadHouse" | 8 => He.ga K "NoCopy" | 9 => He.ga K "Behind" | 10 => He.ga K "BadBlock" | 11 => He.ga K "BadEntry" | 12 => He.ga K "BadText" | 13 => He.ga K "Stopped" | _ => 0), (fun _ _ => 0), (fun i j => match i, j with | 59, 0 => (He.cT K ("law", none)).1 | _, _ => 0)⟩
theorem txt_of {w : World} {K : PySem.W.Frag} {h : Heap} {mg : Str → Option Value} (X : K.In h) (G : h.Ns mainGlobals mg) (c : SaysY fa fn ts tf exB fy w h K) : Txt K mg (adOf K) :=
  let d := c.x.t.d
  {
    within := ⟨fun_ofD (d.def_ 0 rfl), He.glo_ok X G (d.fact 0 (f := .glo "within") rfl)⟩,
    check_hand := ⟨fun_ofD (d.def_ 1 rfl), He.glo_ok X G (d.fact 1 (f := .glo "check_hand") rfl)⟩,
    check_key := ⟨fun_ofD (d.def_ 2 rfl), He.glo_ok X G (d.fact 2 (f := .glo "check_key") rfl)⟩,
    is_deed := ⟨fun_ofD (d.def_ 3 rfl), He.glo_ok X G (d.fact 3 (f := .glo "is_deed") rfl)⟩,
    check_deal := ⟨fun_ofD (d.def_ 4 rfl), He.glo_ok X G (d.fact 4 (f := .glo "check_deal") rfl)⟩,
    is_shown := ⟨fun_ofD (d.def_ 5 rfl), He.glo_ok X G (d.fact 5 (f := .glo "is_shown") rfl)⟩,
    shown_worth := ⟨fun_ofD (d.def_ 6 rfl), He.glo_ok X G (d.fact 6 (f := .glo "shown_worth") rfl)⟩,
    put_row := ⟨fun_ofD (d.def_ 7 rfl), He.glo_ok X G (d.fact 7 (f := .glo "put_row") rfl)⟩,
    drop_row := ⟨fun_ofD (d.def_ 8 rfl), He.glo_ok X G (d.fact 8 (f := .glo "drop_row") rfl)⟩,
    add_to_row := ⟨fun_ofD (d.def_ 9 rfl), He.glo_ok X G (d.fact 9 (f := .glo "add_to_row") rfl)⟩,
    does_show := ⟨fun_ofD (d.def_ 10 rfl), He.glo_ok X G (d.fact 10 (f := .glo "does_show") rfl)⟩,
    rows_behind := ⟨fun_ofD (d.def_ 11 rfl), He.glo_ok X G (d.fact 11 (f := .glo "rows_behind") rfl)⟩,
    check_entry := ⟨fun_ofD (d.def_ 12 rfl), He.glo_ok X G (d.fact 12 (f := .glo "check_entry") rfl)⟩,
    tables_behind := ⟨fun_ofD (d.def_ 13 rfl), He.glo_ok X G (d.fact 13 (f := .glo "tables_behind") rfl)⟩,
    shows := ⟨fun_ofD (d.def_ 14 rfl), He.glo_ok X G (d.fact 14 (f := .glo "shows") rfl)⟩,
    judge := ⟨fun_ofD (d.def_ 15 rfl), He.glo_ok X G (d.fact 15 (f := .glo "judge") rfl)⟩,
    begun := ⟨fun_ofD (d.def_ 16 rfl), He.glo_ok X G (d.fact 16 (f := .glo "_law_begun") rfl)⟩,
    take := ⟨fun_ofD (d.def_ 17 rfl), He.glo_ok X G (d.fact 17 (f := .glo "_law_take") rfl)⟩,
    alike := ⟨fun_ofD (d.def_ 18 rfl), He.glo_ok X G (d.fact 18 (f := .glo "_law_alike") rfl)⟩,
    class_ := ⟨fun_ofD (d.def_ 19 rfl), He.glo_ok X G (d.fact 19 (f := .glo "_law_class") rfl)⟩,
    refused := ⟨fun_ofD (d.def_ 20 rfl), He.glo_ok X G (d.fact 20 (f := .glo "_law_refused") rfl)⟩,
    lall := ⟨fun_ofD (d.def_ 21 rfl), He.glo_ok X G (d.fact 21 (f := .glo "_law_all") rfl)⟩,
    store := ⟨fun_ofD (d.def_ 22 rfl), He.glo_ok X G (d.fact 22 (f := .glo "_law_store") rfl)⟩,
    again := ⟨fun_ofD (d.def_ 23 rfl), He.glo_ok X G (d.fact 23 (f := .glo "_law_again") rfl)⟩,
    seen := ⟨fun_ofD (d.def_ 24 rfl), He.glo_ok X G (d.fact 24 (f := .glo "_law_seen") rfl)⟩,
    tried := ⟨fun_ofD (d.def_ 25 rfl), He.glo_ok X G (d.fact 25 (f := .glo "_law_tried") rfl)⟩,
    deal := ⟨fun_ofD (d.def_ 26 rfl), He.glo_ok X G (d.fact 26 (f := .glo "_law_deal") rfl)⟩,
    whole := ⟨fun_ofD (d.def_ 27 rfl), He.glo_ok X G (d.fact 27 (f := .glo "_law_whole") rfl)⟩,
    deed := ⟨fun_ofD (d.def_ 28 rfl), He.glo_ok X G (d.fact 28 (f := .glo "_law_deed") rfl)⟩,
    drawn := ⟨fun_ofD (d.def_ 29 rfl), He.glo_ok X G (d.fact 29 (f := .glo "_law_drawn") rfl)⟩,
    entries := ⟨fun_ofD (d.def_ 30 rfl), He.glo_ok X G (d.fact 30 (f := .glo "_law_entries") rfl)⟩,
    readings := ⟨fun_ofD (d.def_ 31 rfl), He.glo_ok X G (d.fact 31 (f := .glo "_law_readings") rfl)⟩,
    due := ⟨fun_ofD (d.def_ 32 rfl), He.glo_ok X G (d.fact 32 (f := .glo "_law_due") rfl)⟩,
    odd := ⟨fun_ofD (d.def_ 33 rfl), He.glo_ok X G (d.fact 33 (f := .glo "_law_odd") rfl)⟩,
    law := ⟨fun_ofD (d.def_ 34 rfl), He.glo_ok X G (d.fact 34 (f := .glo "law") rfl)⟩,
    C_law := fnC_ofD (p := ("law", none)) (d.def_ 34 rfl),
    c_StillError := He.glo_ok X G (d.fact 35 (f := .glo "StillError") rfl),
    c_BadDeal := He.glo_ok X G (d.fact 36 (f := .glo "BadDeal") rfl),
    x_BadHand := ⟨He.glo_ok X G (d.fact 37 (f := .glo "BadHand") rfl), (He.exc_ok (d.fact 48 (f := .exc "BadHand") rfl)).1, (He.exc_ok (d.fact 48 (f := .exc "BadHand") rfl)).2.1, (He.exc_ok (d.fact 48 (f := .exc "BadHand") rfl)).2.2.1, (He.exc_ok (d.fact 48 (f := .exc "BadHand") rfl)).2.2.2⟩,
    x_BadLetter := ⟨He.glo_ok X G (d.fact 38 (f := .glo "BadLetter") rfl), (He.exc_ok (d.fact 50 (f := .exc "BadLetter") rfl)).1, (He.exc_ok (d.fact 50 (f := .exc "BadLetter") rfl)).2.1, (He.exc_ok (d.fact 50 (f := .exc "BadLetter") rfl)).2.2.1, (He.exc_ok (d.fact 50 (f := .exc "BadLetter") rfl)).2.2.2⟩,
    x_BadTime := ⟨He.glo_ok X G (d.fact 39 (f := .glo "BadTime") rfl), (He.exc_ok (d.fact 52 (f := .exc "BadTime") rfl)).1, (He.exc_ok (d.fact 52 (f := .exc "BadTime") rfl)).2.1, (He.exc_ok (d.fact 52 (f := .exc "BadTime") rfl)).2.2.1, (He.exc_ok (d.fact 52 (f := .exc "BadTime") rfl)).2.2.2⟩,
    x_BadKey := ⟨He.glo_ok X G (d.fact 40 (f := .glo "BadKey") rfl), (He.exc_ok (d.fact 54 (f := .exc "BadKey") rfl)).1, (He.exc_ok (d.fact 54 (f := .exc "BadKey") rfl)).2.1, (He.exc_ok (d.fact 54 (f := .exc "BadKey") rfl)).2.2.1, (He.exc_ok (d.fact 54 (f := .exc "BadKey") rfl)).2.2.2⟩,
    x_BadHouse := ⟨He.glo_ok X G (d.fact 41 (f := .glo "BadHouse") rfl), (He.exc_ok (d.fact 56 (f := .exc "BadHouse") rfl)).1, (He.exc_ok (d.fact 56 (f := .exc "BadHouse") rfl)).2.1, (He.exc_ok (d.fact 56 (f := .exc "BadHouse") rfl)).2.2.1, (He.exc_ok (d.fact 56 (f := .exc "BadHouse") rfl)).2.2.2⟩,
    x_NoCopy := ⟨He.glo_ok X G (d.fact 42 (f := .glo "NoCopy") rfl), (He.exc_ok (d.fact 58 (f := .exc "NoCopy") rfl)).1, (He.exc_ok (d.fact 58 (f := .exc "NoCopy") rfl)).2.1, (He.exc_ok (d.fact 58 (f := .exc "NoCopy") rfl)).2.2.1, (He.exc_ok (d.fact 58 (f := .exc "NoCopy") rfl)).2.2.2⟩,
    c_Behind := He.glo_ok X G (d.fact 43 (f := .glo "Behind") rfl),
    x_BadBlock := ⟨He.glo_ok X G (d.fact 44 (f := .glo "BadBlock") rfl), (He.exc_ok (d.fact 60 (f := .exc "BadBlock") rfl)).1, (He.exc_ok (d.fact 60 (f := .exc "BadBlock") rfl)).2.1, (He.exc_ok (d.fact 60 (f := .exc "BadBlock") rfl)).2.2.1, (He.exc_ok (d.fact 60 (f := .exc "BadBlock") rfl)).2.2.2⟩,
    x_BadEntry := ⟨He.glo_ok X G (d.fact 45 (f := .glo "BadEntry") rfl), (He.exc_ok (d.fact 62 (f := .exc "BadEntry") rfl)).1, (He.exc_ok (d.fact 62 (f := .exc "BadEntry") rfl)).2.1, (He.exc_ok (d.fact 62 (f := .exc "BadEntry") rfl)).2.2.1, (He.exc_ok (d.fact 62 (f := .exc "BadEntry") rfl)).2.2.2⟩,
    c_BadText := He.glo_ok X G (d.fact 46 (f := .glo "BadText") rfl),
    x_Stopped := ⟨He.glo_ok X G (d.fact 47 (f := .glo "Stopped") rfl), (He.exc_ok (d.fact 64 (f := .exc "Stopped") rfl)).1, (He.exc_ok (d.fact 64 (f := .exc "Stopped") rfl)).2.1, (He.exc_ok (d.fact 64 (f := .exc "Stopped") rfl)).2.2.1, (He.exc_ok (d.fact 64 (f := .exc "Stopped") rfl)).2.2.2⟩,
    k_LAST_KEY := He.int_ok X G (d.fact 66 (f := .int "LAST_KEY" 31) rfl),
    k_LAST_HAND := He.int_ok X G (d.fact 67 (f := .int "LAST_HAND" 3) rfl),
    k_LAST_WORTH := He.int_ok X G (d.fact 68 (f := .int "LAST_WORTH" 999) rfl),
    k_LAST_MOMENT := He.int_ok X G (d.fact 69 (f := .int "LAST_MOMENT" 1000000) rfl),
    k_MOST_DEEDS := He.int_ok X G (d.fact 70 (f := .int "MOST_DEEDS" 4) rfl),
    ValueError := He.free_ok X G (d.fact 71 (f := .free "ValueError") rfl),
    all := He.free_ok X G (d.fact 72 (f := .free "all") rfl),
    bool := He.free_ok X G (d.fact 73 (f := .free "bool") rfl),
    dict := He.free_ok X G (d.fact 74 (f := .free "dict") rfl),
    enumerate := He.free_ok X G (d.fact 75 (f := .free "enumerate") rfl),
    int := He.free_ok X G (d.fact 76 (f := .free "int") rfl),
    isinstance := He.free_ok X G (d.fact 77 (f := .free "isinstance") rfl),
    len := He.free_ok X G (d.fact 78 (f := .free "len") rfl),
    list := He.free_ok X G (d.fact 79 (f := .free "list") rfl),
    max := He.free_ok X G (d.fact 80 (f := .free "max") rfl),
    min := He.free_ok X G (d.fact 81 (f := .free "min") rfl),
    range := He.free_ok X G (d.fact 82 (f := .free "range") rfl),
    sorted := He.free_ok X G (d.fact 83 (f := .free "sorted") rfl),
    str := He.free_ok X G (d.fact 84 (f := .free "str") rfl),
    tuple := He.free_ok X G (d.fact 85 (f := .free "tuple") rfl),
    zip := He.free_ok X G (d.fact 86 (f := .free "zip") rfl) }
end S16

set_option Elab.async false
set_option linter.all false
set_option maxRecDepth 100000
set_option maxHeartbeats 4000000
/-! ### the end -/
namespace S16
open PySem PySem.Spec PyProof.Rows L2 LamX K5 SupX
section
variable {P : Program} {w : World} {K : PySem.W.Frag} {h : Heap} {mg : Str → Option Value}
theorem cls_at : ∀ i, i < 12 → (adOf K).c (i + 2) = He.ga K (clsN i)
  | 0, _ => rfl
  | 1, _ => rfl
  | 2, _ => rfl
  | 3, _ => rfl
  | 4, _ => rfl
  | 5, _ => rfl
  | 6, _ => rfl
  | 7, _ => rfl
  | 8, _ => rfl
  | 9, _ => rfl
  | 10, _ => rfl
  | 11, _ => rfl
  | n + 12, h => absurd h (by omega)
theorem cis_of {j : Nat} (hj : j < 12) (c : CisN K j) : Cis K (adOf K) ((adOf K).c (j + 2)) j := by
  rw [cls_at j hj]
  exact ⟨c.ex, hj, fun i hi => by rw [cls_at i hi]; exact c.is i hi, c.ve⟩
theorem still_of {j : Nat} (hj : j < 12) (c : CisN K j) : PySem.W.exmOne K (.ref ((adOf K).c (j + 2))) (.ref ((adOf K).c 1)) = some true := by
  rw [cls_at j hj]
  exact c.still
theorem ex_of (hf : P.main.file = ("/claim/cut.py" : Str)) (X : K.In h) (G : h.Ns mainGlobals mg) (c : SaysY fa fn ts tf exB fy w h K) : Ex P w K mg (adOf K) (gB K) (gC K) (gI K) ∧ Rs K (adOf K) := by
  obtain ⟨m1, m⟩ := Bool.and_eq_true_iff.mp c.x.more
  obtain ⟨b1, m1⟩ := Bool.and_eq_true_iff.mp m1
  obtain ⟨b2, m1⟩ := Bool.and_eq_true_iff.mp m1
  obtain ⟨b3, b4⟩ := Bool.and_eq_true_iff.mp m1
  obtain ⟨m2, m⟩ := Bool.and_eq_true_iff.mp m
  obtain ⟨a1, m2⟩ := Bool.and_eq_true_iff.mp m2
  obtain ⟨a2, m2⟩ := Bool.and_eq_true_iff.mp m2
  obtain ⟨a3, a4⟩ := Bool.and_eq_true_iff.mp m2
  obtain ⟨i1, m⟩ := Bool.and_eq_true_iff.mp m
  obtain ⟨k1, m⟩ := Bool.and_eq_true_iff.mp m
  obtain ⟨e0, m⟩ := Bool.and_eq_true_iff.mp m
  obtain ⟨e1, m⟩ := Bool.and_eq_true_iff.mp m
  obtain ⟨e4, e9⟩ := Bool.and_eq_true_iff.mp m
  have d := c.x.t.d
  obtain ⟨es1, n1, D1⟩ := c.x.t.tab 0 (t := ((fun K => He.ga K "BOUNDS"), ["put", "drop", "add", "if"])) rfl
  obtain ⟨es2, n2, D2⟩ := c.x.t.tab 1 (t := ((fun K => He.ga K "ACTIONS"), ["put", "drop", "add", "if"])) rfl
  have C := clsB_ok (mg := mg) (He.free_ok X G (d.fact 89 (f := .free "super") rfl)) k1
  refine ⟨⟨He.glo_ok X G (d.fact 87 (f := .glo "BOUNDS") rfl), ⟨es1, n1, D1⟩, fun q => ?_, He.glo_ok X G (d.fact 88 (f := .glo "ACTIONS") rfl), ⟨es2, n2, D2.at_, D2.lit⟩, of_decide_eq_true a1, of_decide_eq_true a2, of_decide_eq_true a3, of_decide_eq_true a4, initB_ok hf c.y i1, C⟩,
    cis_of (by decide) (cisB_ok e0), cis_of (by decide) (cisB_ok e1), cis_of (by decide) (cisB_ok e4), cis_of (by decide) (cisB_ok e9), still_of (by decide) (cisB_ok e0), still_of (by decide) (cisB_ok e1), still_of (by decide) (cisB_ok e4), still_of (by decide) (cisB_ok e9), ?_, C.no⟩
  · cases q with
    | put => exact boundsB_ok b1
    | drop => exact boundsB_ok b2
    | add => exact boundsB_ok b3
    | iff => exact boundsB_ok b4
  · have x := (cisB_ok e0).ex
    exact ⟨x.hg, x.hk, x.hs, x.hd⟩
end
theorem law_end {w : World} {K : PySem.W.Frag} {mg : Str → Option Value} {fa' : Addr} {h : Heap} (X : K.In h) (G : h.Ns mainGlobals mg) (c : SaysY fa fn ts tf exB fy w h K) (hfa : mg "law" = some (.ref fa')) :
    LawAtS PySem.Challenge.rw_stillcopy_k16_readings_judged w K CX0 9 63 "_law_script" mg fa' h := by
  have T := txt_of X G c
  obtain ⟨EX, RS⟩ := ex_of (P := PySem.Challenge.rw_stillcopy_k16_readings_judged.prog) (by rfl) X G c
  have e := hfa.symm.trans T.law.at_
  cases e
  obtain ⟨oc, od, kV, doc, pm, an, ct, osl, lk, hcd⟩ := T.C_law.ex
  have hm : (("law", none) : He.Defn) ∈ tf := List.mem_cons_self
  have mem : ∀ {p : Addr × Addr} {Y : Addr × Addr → Prop}, Y (He.cT K ("law", none)) → p ∈ [He.cT K ("law", none)] → Y p := fun y hp => by rw [List.mem_singleton.mp hp]; exact y
  refine ⟨PySem.W.fnOf "law" "law" (defArgs s_law) (defBody s_law) (defScope s_law) .none kV doc pm an (.ref (He.cT K ("law", none)).1) ct, [He.cT K ("law", none)], spLaw K (He.cT K ("law", none)).2, fun p hp => mem (Y := fun p => h.get? p.2 = some { cls := .none, data := .fields #[] }) (c.x.empty _ hm) hp,
    fun p hp => mem (Y := fun p => K.lookup p.2 = none) (c.x.out _ hm) hp, fun p hp => mem (Y := fun p => PySem.W.CodeHd h p.1 p.2) (PySem.W.codeHd_of_K X (c.x.hd _ hm)) hp, fun s u => .of_eq rfl, fun H a ns hl _ hT hS => ?_, fun base KX G hTB => ?_⟩
  · refine ⟨a, ns, rfl, hS, hl, fun p hp => ?_, fun _ => rfl⟩
    rw [List.mem_singleton.mp hp]
    exact ⟨#[], hT _ List.mem_cons_self, (by simp only [PySem.TriplesOk]), fun pos cv hc => by cases hc⟩
  · refine fn_of lk hcd sclaw (fun vs H Q E hsp => ?_) fun Ar outer s H vs Q E hr hsp => ?_
    · obtain ⟨a, ns, rfl, _⟩ := hsp
      rfl
    · obtain ⟨t, ht, q⟩ := law_body (P := PySem.Challenge.rw_stillcopy_k16_readings_judged.prog) (w := w) (E := E) T EX (by decide +kernel) RS (hTB _ List.mem_cons_self) hr hsp
      exact ⟨t, ht.nox, q⟩
end S16

set_option Elab.async false
set_option maxRecDepth 100000
open PySem PySem.W PySem.Calls PyProof.Rows
set_option maxHeartbeats 0 in
theorem PySem.Challenge.cw_stillcopy_k16_readings_judged_holds : PySem.Challenge.rw_stillcopy_k16_readings_judged.Holds := by
  w_on; o_law
  refine HandSHeadRun.head_any (r := (PySem.W.OpenLaw.row PySem.Challenge.rw_stillcopy_k16_readings_judged)) (q := PySem.W.view (PySem.W.OpenLaw.row PySem.Challenge.rw_stillcopy_k16_readings_judged).prog [59]) (H := S16.hk) (ob := S16.ob) (M := 12000) (loose := S16.loose) (d := HandSHeadRun.topDef (PySem.W.OpenLaw.row PySem.Challenge.rw_stillcopy_k16_readings_judged).prog 59) (kwd := []) S16.ob_eq
    (by kernel_rfl) (fun s => by kernel_rfl) S16.run (by kernel_rfl) (by kernel_rfl) (by kernel_rfl) (by rfl) (by first | assumption | decide +kernel) (by decide +kernel) ⟨rfl, rfl, rfl, rfl, rfl, by decide +kernel⟩ ?hw ?hc
  case hw => w_witness2
  case hc =>
    refine LamX.walk_ofTsE (l := PySem.Challenge.rw_stillcopy_k16_readings_judged) (n := 63) (k := 9) (x := "_law_script") (CX := fun _ => L2.CX0) rfl (by decide) (by kernel_rfl) ⟨rfl, by decide, by decide⟩ ?F (fun _ _ _ _ _ z => z)
    intro w mg fa h Y G hmg0
    obtain ⟨K, KX, c⟩ := Y
    have hmg : mg ("law" : PySem.Str) = some (.ref fa) := by
      have e : (HandSHeadRun.topDef (PySem.W.OpenLaw.row PySem.Challenge.rw_stillcopy_k16_readings_judged).prog 59).name = ("law" : PySem.Str) := by kernel_rfl
      rw [← e]
      exact hmg0
    exact ⟨K, KX, S16.law_end KX G c hmg⟩
