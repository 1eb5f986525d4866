import PyProof.Rows.All
import Wide.All
import OpenK.AllK
import Wide.FinOn
import HandS.ForMost
import HandS.TupAny
import HandS.TupLe
import HandS.Deep
import HandS.Property
import HandS.OwnEq
import HandS.IsInst
import HandS.More
import HandS.Steps
import HandS.Walk
import KE.GoesMore
import KE.GoesEnum
import PyProof.EnumMake
import HandS.Dict
import PyProof.SeqIndex
import HandS.Iter
import KE.KDictWalk
import HandS.Codes
import HandS.Style
import KE.SortData
import KE.DataMinMax
import PyProof.Rows.RowBridgeK
import HandS.ExcInit
import HandS.TryOnly
import HandS.WordsExc
import HandS.ExcCtx
import HandS.Conv
import HandS.SetFor
import HandS.Strs
import HandS.Text
import PySem.Challenge.RW_placetrade_k16_whole_parts_of_rows
set_option Elab.async false
set_option linter.all false
set_option maxRecDepth 10000000
namespace Pt
open PySem PySem.Spec PyProof.Rows L2
def SqF (H : Hp) (a : Addr) (xs : List V) : Prop := ∃ o, H a = some (.frz o (.tup xs)) ∧ o.dict = none
theorem SqF.sq {K : PySem.W.Frag} {H : Hp} {a : Addr} {xs : List V} (h : SqF H a xs) : SqT K H a xs := let ⟨o, e, _⟩ := h; .inl (.inr ⟨o, e⟩)
def FzF (H : Hp) (a : Addr) (xs : List V) : Prop := ∃ o, H a = some (.frz o (.lst xs))
theorem FzF.sq {K : PySem.W.Frag} {H : Hp} {a : Addr} {xs : List V} (h : FzF H a xs) : SqL K H a xs := .inl (.inr h)
mutual
inductive Td (K : PySem.W.Frag) (H : Hp) : V → PyData → Prop
  | non : Td K H .non .none
  | bl (b : Bool) : Td K H (.bl b) (.bool b)
  | int (i : Int) : Td K H (.int i) (.int i)
  | str (x : Str) : Td K H (.str x) (.str x)
  | tup {a : Addr} {xs : List V} {ds : List PyData} : SqF H a xs → TdAll K H xs ds → Td K H (.ref a) (.tuple ds)
  | lst {a : Addr} {xs : List V} {ds : List PyData} : FzF H a xs → TdAll K H xs ds → Td K H (.ref a) (.list ds)
inductive TdAll (K : PySem.W.Frag) (H : Hp) : List V → List PyData → Prop
  | nil : TdAll K H [] []
  | cons {v : V} {vs : List V} {d : PyData} {ds : List PyData} : Td K H v d → TdAll K H vs ds → TdAll K H (v :: vs) (d :: ds)
end
variable {K : PySem.W.Frag} {C : Addr} {H H' H1 H2 : Hp} {v w x y : V} {vs : List V} {d e : PyData} {ds es : List PyData}
def Tx (H H' : Hp) : Prop := ∀ a o u, H a = some (.frz o u) → H' a = some (.frz o u)
theorem Tx.of (e : Same H H') : Tx H H' := fun a o u h => e _ _ h
theorem Tx.trans (a : Tx H H1) (b : Tx H1 H2) : Tx H H2 := fun p o u h => b p o u (a p o u h)
theorem Tx.fzF (t : Tx H H') {a : Addr} {xs : List V} (h : FzF H a xs) : FzF H' a xs := let ⟨o, e⟩ := h; ⟨o, t _ _ _ e⟩
theorem Tx.sqF (t : Tx H H') {a : Addr} {xs : List V} (h : SqF H a xs) : SqF H' a xs := let ⟨o, e, n⟩ := h; ⟨o, t _ _ _ e, n⟩
mutual
theorem Td.mono (t : Tx H H') : ∀ (d : PyData) (v : V), Td K H v d → Td K H' v d
  | .none, _, h => by cases h; exact .non
  | .bool b, _, h => by cases h; exact .bl b
  | .int i, _, h => by cases h; exact .int i
  | .str x, _, h => by cases h; exact .str x
  | .list ds, _, h => by
    cases h with
    | lst s a => exact .lst (t.fzF s) (TdAll.mono t ds _ a)
  | .tuple ds, _, h => by
    cases h with
    | tup s a => exact .tup (t.sqF s) (TdAll.mono t ds _ a)
  | .dict _, _, h => by cases h
theorem TdAll.mono (t : Tx H H') : ∀ (ds : List PyData) (vs : List V), TdAll K H vs ds → TdAll K H' vs ds
  | [], _, h => by cases h; exact .nil
  | d :: ds, _, h => by
    cases h with
    | cons a b => exact .cons (Td.mono t d _ a) (TdAll.mono t ds _ b)
end
mutual
theorem Td.dp : ∀ (d : PyData) (v : V), Td K H v d → Dp K H v d
  | .none, _, h => by cases h; exact .non
  | .bool b, _, h => by cases h; exact .bl b
  | .int i, _, h => by cases h; exact .int i
  | .str x, _, h => by cases h; exact .str x
  | .list ds, _, h => by
    cases h with
    | lst s a => exact .lst s.sq (TdAll.dp ds _ a)
  | .tuple ds, _, h => by
    cases h with
    | tup s a => exact .tup s.sq (TdAll.dp ds _ a)
  | .dict _, _, h => by cases h
theorem TdAll.dp : ∀ (ds : List PyData) (vs : List V), TdAll K H vs ds → DpAll K H vs ds
  | [], _, h => by cases h; exact .nil
  | d :: ds, _, h => by
    cases h with
    | cons a b => exact .cons (Td.dp d _ a) (TdAll.dp ds _ b)
end
theorem TdAll.length : ∀ {vs : List V} {ds : List PyData}, TdAll K H vs ds → vs.length = ds.length
  | _, _, .nil => rfl
  | _, _, .cons _ t => congrArg (· + 1) (TdAll.length t)
theorem TdAll.append : ∀ {vs ws : List V} {ds es : List PyData}, TdAll K H vs ds → TdAll K H ws es → TdAll K H (vs ++ ws) (ds ++ es)
  | _, _, _, _, .nil, s => s
  | _, _, _, _, .cons r t, s => .cons r (TdAll.append t s)
theorem TdAll.take : ∀ {vs : List V} {ds : List PyData} (n : Nat), TdAll K H vs ds → TdAll K H (vs.take n) (ds.take n)
  | _, _, 0, _ => .nil
  | _, _, _ + 1, .nil => .nil
  | _, _, n + 1, .cons r t => .cons r (TdAll.take n t)
theorem TdAll.drop : ∀ {vs : List V} {ds : List PyData} (n : Nat), TdAll K H vs ds → TdAll K H (vs.drop n) (ds.drop n)
  | _, _, 0, r => r
  | _, _, _ + 1, .nil => .nil
  | _, _, n + 1, .cons _ t => TdAll.drop n t
theorem TdAll.get : ∀ {vs : List V} {ds : List PyData} {i : Nat} {d : PyData}, TdAll K H vs ds → ds[i]? = some d → ∃ v, vs[i]? = some v ∧ Td K H v d
  | _, _, _, _, .nil, e => by simp at e
  | _, _, 0, _, .cons r _, e => by simp at e; subst e; exact ⟨_, rfl, r⟩
  | _, _, i + 1, _, .cons _ t, e => by
    obtain ⟨v, h1, h2⟩ := TdAll.get (i := i) t (by simpa using e)
    exact ⟨v, by simpa using h1, h2⟩
theorem TdAll.get' : ∀ {vs : List V} {ds : List PyData} {i : Nat} {v : V}, TdAll K H vs ds → vs[i]? = some v → ∃ d, ds[i]? = some d ∧ Td K H v d
  | _, _, _, _, .nil, e => by simp at e
  | _, _, 0, _, .cons r _, e => by simp at e; subst e; exact ⟨_, rfl, r⟩
  | _, _, i + 1, _, .cons _ t, e => by
    obtain ⟨v, h1, h2⟩ := TdAll.get' (i := i) t (by simpa using e)
    exact ⟨v, by simpa using h1, h2⟩
theorem TdAll.set : ∀ {vs : List V} {ds : List PyData} (i : Nat) {v : V} {d : PyData}, TdAll K H vs ds → Td K H v d → TdAll K H (vs.set i v) (ds.set i d)
  | _, _, _, _, _, .nil, _ => .nil
  | _, _, 0, _, _, .cons _ t, h => .cons h t
  | _, _, i + 1, _, _, .cons r t, h => .cons r (TdAll.set i t h)
theorem TdAll.erase : ∀ {vs : List V} {ds : List PyData} (i : Nat), TdAll K H vs ds → TdAll K H (vs.eraseIdx i) (ds.eraseIdx i)
  | _, _, _, .nil => .nil
  | _, _, 0, .cons _ t => t
  | _, _, i + 1, .cons r t => .cons r (TdAll.erase i t)
theorem TdAll.reverse {vs : List V} {ds : List PyData} (h : TdAll K H vs ds) : TdAll K H vs.reverse ds.reverse := by
  induction vs generalizing ds with
  | nil => cases h; exact .nil
  | cons a r ih =>
    cases h with
    | cons h1 h2 =>
      rw [List.reverse_cons, List.reverse_cons]
      exact (ih h2).append (.cons h1 .nil)
theorem Td.int_of {i : Int} (h : Td K H v (.int i)) : v = .int i := by cases h; rfl
theorem Td.bl_of {b : Bool} (h : Td K H v (.bool b)) : v = .bl b := by cases h; rfl
theorem Td.non_of (h : Td K H v .none) : v = .non := by cases h; rfl
theorem Td.str_of {z : Str} (h : Td K H v (.str z)) : v = .str z := by cases h; rfl
theorem Td.tup_of (h : Td K H v (.tuple ds)) : ∃ a xs, v = .ref a ∧ SqF H a xs ∧ TdAll K H xs ds := by
  cases h with
  | tup s a => exact ⟨_, _, rfl, s, a⟩
def iL (l : List Int) : List PyData := l.map .int
abbrev row (l : List Int) : PyData := .tuple (iL l)
theorem TdAll.iL_of : ∀ {l : List Int} {vs : List V}, TdAll K H vs (iL l) → vs = l.map V.int
  | [], _, h => by cases h; rfl
  | i :: r, _, h => by
    cases h with
    | cons a b => rw [a.int_of, TdAll.iL_of b]; rfl
theorem TdAll.of_iL : ∀ (l : List Int), TdAll K H (l.map V.int) (iL l)
  | [] => .nil
  | i :: r => .cons (.int i) (TdAll.of_iL r)
theorem iL_len (l : List Int) : (iL l).length = l.length := List.length_map _
theorem iL_get (l : List Int) (i : Nat) : (iL l)[i]? = l[i]?.map .int := List.getElem?_map
theorem iL_app (l m : List Int) : iL (l ++ m) = iL l ++ iL m := List.map_append
def pairD (p : Int × Int) : PyData := .tuple [.int p.1, .int p.2]
def pairsD (ps : List (Int × Int)) : PyData := .tuple (ps.map pairD)
inductive Ct where
  | u
  | d (d : PyData)
  | r (v : V)
  | l (p : Addr) (ds : List PyData)
  | s (p : Addr) (ds : List PyData)
  | z (p : Addr) (ds : List PyData)
  | h (p c : Addr)
  | t (n : Int) (ps : List (Int × Int))
  | o (p : Addr) (u : HO) (ks : List (Addr × List V))
  | k (p : Addr) (u : HO) (ks : List (Addr × List V))
  | y (p : Addr) (ts : List (Int × List (Int × Int)))
  | n (L p q : Addr) (n : Int) (ps : List (Int × Int)) (ds : List PyData)
def lflds (t : V) (q : Addr) : List (Str × V) := [("_trade", t), ("_rows", .ref q)]
def flds (n : Int) (q : Addr) : List (Str × V) := [("_letters", .int n), ("_pairs", .ref q)]
def Fz (K : PySem.W.Frag) (H : Hp) (a : Addr) (xs : List V) : Prop :=
  (∃ o, H a = some (.frz o (.lst xs))) ∨
    ∃ (o : Obj) (its : Array Value) (n : Nat), K.lookup a = some o ∧ o.cls = .type "list" ∧ o.dict = none ∧ o.data = .seq its n ∧ its.size ≤ sizeLine ∧ Vals xs its.toList
theorem Fz.sq {a : Addr} {xs : List V} (h : Fz K H a xs) : SqL K H a xs := by
  rcases h with ⟨o, h⟩ | h
  · exact .inl (.inr ⟨o, h⟩)
  · exact .inr h
def Wr : HO → Prop
  | .lst _ => True
  | .ext _ => True
  | .dK _ => True
  | _ => False
def TrAll (K : PySem.W.Frag) (C : Addr) (H : Hp) : List V → List (Int × List (Int × Int)) → Prop
  | [], [] => True
  | v :: vs, t :: ts => (∃ p dx q, v = .ref p ∧ H p = some (.ins C dx (flds t.1 q)) ∧ Td K H (.ref q) (pairsD t.2)) ∧ TrAll K C H vs ts
  | _, _ => False
theorem TrAll.mono {C : Addr} (e : Tx H H') (f : ∀ a o, H a = some o → ¬ Wr o → H' a = some o) : ∀ {vs : List V} {ts : List (Int × List (Int × Int))}, TrAll K C H vs ts → TrAll K C H' vs ts
  | [], [], _ => True.intro
  | _ :: _, _ :: _, ⟨⟨p, dx, q, a, b, c⟩, r⟩ => ⟨⟨p, dx, q, a, f _ _ b (fun z => z), Td.mono e _ _ c⟩, TrAll.mono e f r⟩
  | [], _ :: _, h => h.elim
  | _ :: _, [], h => h.elim
theorem TrAll.length {C : Addr} : ∀ {vs : List V} {ts : List (Int × List (Int × Int))}, TrAll K C H vs ts → vs.length = ts.length
  | [], [], _ => rfl
  | _ :: _, _ :: _, ⟨_, r⟩ => congrArg (· + 1) (TrAll.length r)
  | [], _ :: _, h => h.elim
  | _ :: _, [], h => h.elim
theorem TrAll.snoc {C : Addr} {v : V} {t : Int × List (Int × Int)} (hv : ∃ p dx q, v = .ref p ∧ H p = some (.ins C dx (flds t.1 q)) ∧ Td K H (.ref q) (pairsD t.2)) : ∀ {vs : List V} {ts : List (Int × List (Int × Int))}, TrAll K C H vs ts → TrAll K C H (vs ++ [v]) (ts ++ [t])
  | [], [], _ => ⟨hv, True.intro⟩
  | _ :: _, _ :: _, ⟨a, r⟩ => ⟨a, TrAll.snoc hv r⟩
  | [], _ :: _, h => h.elim
  | _ :: _, [], h => h.elim
theorem TrAll.get {C : Addr} : ∀ {vs : List V} {ts : List (Int × List (Int × Int))} {k : Nat} {v : V}, TrAll K C H vs ts → vs[k]? = some v → ∃ t, ts[k]? = some t ∧ ∃ p dx q, v = .ref p ∧ H p = some (.ins C dx (flds t.1 q)) ∧ Td K H (.ref q) (pairsD t.2)
  | _ :: _, t :: _, 0, _, ⟨a, _⟩, e => ⟨t, rfl, by cases e; exact a⟩
  | _ :: _, _ :: _, k + 1, _, ⟨_, r⟩, e => TrAll.get (k := k) r e
  | [], _, _, _, _, e => by simp at e
  | _ :: _, [], _, _, h, _ => h.elim
def CtAt (K : PySem.W.Frag) (C : Addr) (H : Hp) (v : V) : Ct → Prop
  | .u => True
  | .d d => Td K H v d
  | .r w => v = w
  | .l p ds => v = .ref p ∧ ∃ xs, H p = some (.lst xs) ∧ TdAll K H xs ds
  | .s p ds => v = .ref p ∧ ∃ xs, H p = some (.lst xs) ∧ TdAll K H xs ds
  | .z p ds => v = .ref p ∧ ∃ xs, Fz K H p xs ∧ TdAll K H xs ds
  | .h p c => v = .ref p ∧ p ≠ c ∧ ∃ (s k : Int) (cells : List Int), H p = some (.lst [.int s, .ref c, .int k]) ∧ H c = some (.lst (cells.map V.int)) ∧ cells.length ≤ 63
  | .t n ps => ∃ p dx q, v = .ref p ∧ H p = some (.ins C dx (flds n q)) ∧ Td K H (.ref q) (pairsD ps)
  | .o p u ks => v = .ref p ∧ H p = some u ∧ Wr u ∧ ∀ e ∈ ks, SqF H e.1 e.2
  | .k p u ks => v = .ref p ∧ (∃ o, H p = some (.frz o u)) ∧ ∀ e ∈ ks, SqF H e.1 e.2
  | .y p ts => v = .ref p ∧ ∃ xs, H p = some (.lst xs) ∧ TrAll K C H xs ts
  | .n L p q n ps ds => v = .ref p ∧ (∃ dx t, H p = some (.ins L dx (lflds (.ref t) q)) ∧ ∃ dy r, H t = some (.ins C dy (flds n r)) ∧ Td K H (.ref r) (pairsD ps)) ∧ ∃ xs, H q = some (.lst xs) ∧ TdAll K H xs ds
def Ct.adr : Ct → List Addr
  | .l p _ => [p]
  | .s p _ => [p]
  | .h p c => [p, c]
  | .o p _ _ => [p]
  | .y p _ => [p]
  | .n _ _ q _ _ _ => [q]
  | _ => []
def Ct.own : Ct → Bool
  | .l _ _ => true
  | .h _ _ => true
  | .o _ _ _ => true
  | .y _ _ => true
  | .n _ _ _ _ _ _ => true
  | _ => false
def Fr (T : List Addr) (H H' : Hp) : Prop := ∀ a o, H a = some o → a ∉ T → H' a = some o
def LT (T : List Addr) (H : Hp) : Prop := ∀ a ∈ T, ∃ u, H a = some u ∧ Wr u
theorem Fr.of (e : Same H H') (T : List Addr) : Fr T H H' := fun a o h _ => e a o h
theorem Fr.same (f : Fr [] H H') : Same H H' := fun a o h => f a o h (by simp)
theorem Fr.trans {T : List Addr} (f : Fr T H H1) (g : Fr T H1 H2) : Fr T H H2 := fun a o h n => g a o (f a o h n) n
theorem Fr.upd {p : Addr} {o : HO} : Fr [p] H (upd H p o) := fun a u h n => by rw [upd_ne (by simpa using n)]; exact h
theorem LT.nil : LT [] H := fun a h => by simp at h
theorem LT.one {p : Addr} {xs : List V} (h : H p = some (.lst xs)) : LT [p] H := fun a m => ⟨.lst xs, by rw [show a = p by simpa using m]; exact h, True.intro⟩
theorem LT.oneW {p : Addr} {u : HO} (h : H p = some u) (w : Wr u) : LT [p] H := fun a m => ⟨u, by rw [show a = p by simpa using m]; exact h, w⟩
theorem LT.ne {T : List Addr} (l : LT T H) {a : Addr} {o : HO} (h : H a = some o) (n : ¬ Wr o) : a ∉ T := fun m => by
  obtain ⟨u, e, z⟩ := l a m
  rw [h] at e
  cases e
  exact n z
theorem Tx.fr {T : List Addr} (l : LT T H) (f : Fr T H H') : Tx H H' := fun a o u r => f _ _ r (l.ne r fun z => z)
theorem CtAt.fr {T : List Addr} (l : LT T H) (f : Fr T H H') : ∀ {c : Ct}, (∀ a ∈ c.adr, a ∉ T) → CtAt K C H v c → CtAt K C H' v c
  | .u, _, _ => True.intro
  | .d d, _, h => Td.mono (.fr l f) d v h
  | .r _, _, h => h
  | .l q ds, n, ⟨a, ys, b, c⟩ => ⟨a, ys, f _ _ b (n q (by simp [Ct.adr])), TdAll.mono (.fr l f) ds ys c⟩
  | .s q ds, n, ⟨a, ys, b, c⟩ => ⟨a, ys, f _ _ b (n q (by simp [Ct.adr])), TdAll.mono (.fr l f) ds ys c⟩
  | .z q ds, n, ⟨a, ys, b, c⟩ => ⟨a, ys, by
      rcases b with ⟨o, b⟩ | b
      · exact .inl ⟨o, f _ _ b (l.ne b fun z => z)⟩
      · exact .inr b, TdAll.mono (.fr l f) ds ys c⟩
  | .h q c, n, ⟨a, ne, s, k, cs, h1, h2, h3⟩ => ⟨a, ne, s, k, cs, f _ _ h1 (n q (by simp [Ct.adr])), f _ _ h2 (n c (by simp [Ct.adr])), h3⟩
  | .t m ps, _, ⟨q, dx, r, a, b, c⟩ => ⟨q, dx, r, a, f _ _ b (l.ne b fun z => z), Td.mono (.fr l f) _ _ c⟩
  | .o q u ks, n, ⟨a, b, z, k⟩ => ⟨a, f _ _ b (n q (by simp [Ct.adr])), z, fun e m => (Tx.fr l f).sqF (k e m)⟩
  | .k q u ks, _, ⟨a, ⟨o, b⟩, k⟩ => ⟨a, ⟨o, Tx.fr l f _ _ _ b⟩, fun e m => (Tx.fr l f).sqF (k e m)⟩
  | .y q ts, n, ⟨a, ys, b, c⟩ => ⟨a, ys, f _ _ b (n q (by simp [Ct.adr])), c.mono (.fr l f) fun a o r z => f _ _ r (l.ne r z)⟩
  | .n L p q m ps ds, n, ⟨a, ⟨dx, t, b1, dy, r, b2, b3⟩, ys, b, c⟩ => ⟨a, ⟨dx, t, f _ _ b1 (l.ne b1 fun z => z), dy, r, f _ _ b2 (l.ne b2 fun z => z), Td.mono (.fr l f) _ _ b3⟩, ys, f _ _ b (n q (by simp [Ct.adr])), TdAll.mono (.fr l f) ds ys c⟩
theorem CtAt.mono (e : Same H H') {c : Ct} (h : CtAt K C H v c) : CtAt K C H' v c := h.fr LT.nil (Fr.of e []) fun a _ m => by simp at m
theorem CtAt.there : ∀ {c : Ct} {a : Addr}, CtAt K C H v c → a ∈ c.adr → ∃ u, H a = some u ∧ Wr u
  | .l p ds, a, ⟨_, xs, b, _⟩, h => by
    have e : a = p := by simpa [Ct.adr] using h
    exact ⟨.lst xs, e ▸ b, True.intro⟩
  | .s p ds, a, ⟨_, xs, b, _⟩, h => by
    have e : a = p := by simpa [Ct.adr] using h
    exact ⟨.lst xs, e ▸ b, True.intro⟩
  | .h p c, a, ⟨_, _, s, k, cs, h1, h2, _⟩, h => by
    have e : a = p ∨ a = c := by simpa [Ct.adr] using h
    rcases e with e | e
    · exact ⟨.lst _, e ▸ h1, True.intro⟩
    · exact ⟨.lst _, e ▸ h2, True.intro⟩
  | .o p u ks, a, ⟨_, b, z, _⟩, h => by
    have e : a = p := by simpa [Ct.adr] using h
    exact ⟨_, e ▸ b, z⟩
  | .u, a, _, h => by simp [Ct.adr] at h
  | .d _, a, _, h => by simp [Ct.adr] at h
  | .r _, a, _, h => by simp [Ct.adr] at h
  | .z _ _, a, _, h => by simp [Ct.adr] at h
  | .t _ _, a, _, h => by simp [Ct.adr] at h
  | .k _ _ _, a, _, h => by simp [Ct.adr] at h
  | .y p ts, a, ⟨_, xs, b, _⟩, h => by
    have e : a = p := by simpa [Ct.adr] using h
    exact ⟨.lst xs, e ▸ b, True.intro⟩
  | .n L p q n ps ds, a, ⟨_, _, xs, b, _⟩, h => by
    have e : a = q := by simpa [Ct.adr] using h
    exact ⟨.lst xs, e ▸ b, True.intro⟩
def SlotAt (K : PySem.W.Frag) (C : Addr) (H : Hp) (o : Option (Option V)) : Ct → Prop
  | .u => True
  | c => ∃ v, o = some (some v) ∧ CtAt K C H v c
theorem SlotAt.mk {o : Option (Option V)} {c : Ct} (e : o = some (some v)) (h : CtAt K C H v c) : SlotAt K C H o c := by
  cases c with
  | u => exact True.intro
  | _ => exact ⟨v, e, h⟩
theorem SlotAt.to {o : Option (Option V)} {c : Ct} (h : SlotAt K C H o c) (hc : c ≠ .u) : ∃ v, o = some (some v) ∧ CtAt K C H v c := by
  cases c with
  | u => exact absurd rfl hc
  | _ => exact h
theorem SlotAt.map {H' : Hp} {o : Option (Option V)} {c : Ct} (f : ∀ v, CtAt K C H v c → CtAt K C H' v c) (h : SlotAt K C H o c) : SlotAt K C H' o c := by
  cases c with
  | u => exact True.intro
  | _ => obtain ⟨v, e, a⟩ := h; exact ⟨v, e, f v a⟩
structure Wd (K : PySem.W.Frag) (C : Addr) (S : List Addr) (G : List (V × PyData)) (H0 H : Hp) (σ : L2.St) (Γ : List Ct) : Prop where
  fr : Fr S H0 H
  sl : LT S H
  len : σ.length = Γ.length
  at_ : ∀ (i : Nat) (c : Ct), Γ[i]? = some c → SlotAt K C H σ[i]? c
  wr : ∀ (i : Nat) (c : Ct), Γ[i]? = some c → c.own = true → ∀ a ∈ c.adr, a ∈ S ∨ H0 a = none
  dj : ∀ (i j : Nat) (c c' : Ct) (a : Addr), Γ[i]? = some c → Γ[j]? = some c' → a ∈ c.adr → a ∈ c'.adr → i = j ∨ (c.own = false ∧ c'.own = false)
  gh : ∀ p ∈ G, Td K H p.1 p.2
section
variable {G : List (V × PyData)} {S : List Addr} {H0 : Hp} {σ : L2.St} {Γ : List Ct} {i : Nat} {c : Ct}
theorem Wd.get (w : Wd K C S G H0 H σ Γ) (h : Γ[i]? = some c) (hc : c ≠ .u := by intro z; cases z) : ∃ v, σ[i]? = some (some v) ∧ CtAt K C H v c := (w.at_ i c h).to hc
theorem Wd.mono (w : Wd K C S G H0 H σ Γ) (e : Same H H') : Wd K C S G H0 H' σ Γ :=
  ⟨fun a o h n => e a o (w.fr a o h n), fun a m => let ⟨u, h, z⟩ := w.sl a m; ⟨u, e _ _ h, z⟩, w.len, fun i c h => (w.at_ i c h).map fun _ => CtAt.mono e, w.wr, w.dj, fun p m => Td.mono (.of e) _ _ (w.gh p m)⟩
theorem Wd.fr0 (w : Wd K C [] G H0 H σ Γ) : Same H0 H := w.fr.same
theorem set_cases {α : Type} {l : List α} {i j : Nat} {x y : α} (h : (l.set i x)[j]? = some y) : (j = i ∧ y = x ∧ i < l.length) ∨ (j ≠ i ∧ l[j]? = some y) := by
  rw [List.getElem?_set] at h
  split at h
  · split at h
    · rename_i e hl
      cases h
      exact .inl ⟨e.symm, rfl, hl⟩
    · cases h
  · rename_i e
    exact .inr ⟨fun z => e z.symm, h⟩
theorem Wd.setC (w : Wd K C S G H0 H σ Γ) (i : Nat) (h : CtAt K C H v c) (hw : c.own = true → ∀ a ∈ c.adr, a ∈ S ∨ H0 a = none) (hd : ∀ j c' a, j ≠ i → Γ[j]? = some c' → a ∈ c.adr → a ∈ c'.adr → False) : Wd K C S G H0 H (σ.set i (some v)) (Γ.set i c) := by
  refine ⟨w.fr, w.sl, by rw [List.length_set, List.length_set, w.len], fun j c' hj => ?_, fun j c' hj n => ?_, fun j k c1 c2 a h1 h2 m1 m2 => ?_, w.gh⟩
  · rcases set_cases hj with ⟨rfl, rfl, hl⟩ | ⟨ne, hj⟩
    · refine .mk ?_ h
      rw [List.getElem?_set_self (by rw [w.len]; exact hl)]
    · rw [List.getElem?_set_ne (Ne.symm ne)]
      exact w.at_ j c' hj
  · rcases set_cases hj with ⟨rfl, rfl, hl⟩ | ⟨ne, hj⟩
    · exact hw n
    · exact w.wr j c' hj n
  · rcases set_cases h1 with ⟨q1, q2, hl⟩ | ⟨ne, q1⟩
    · rcases set_cases h2 with ⟨q3, q4, _⟩ | ⟨ne2, q3⟩
      · exact .inl (by rw [q1, q3])
      · exact (hd k c2 a ne2 q3 (q2 ▸ m1) m2).elim
    · rcases set_cases h2 with ⟨q3, q4, _⟩ | ⟨ne2, q3⟩
      · exact (hd j c1 a ne q1 (q4 ▸ m2) m1).elim
      · exact w.dj j k c1 c2 a q1 q3 m1 m2
theorem Wd.set (w : Wd K C S G H0 H σ Γ) (i : Nat) (h : CtAt K C H v c) (ha : c.adr = [] := by rfl) : Wd K C S G H0 H (σ.set i (some v)) (Γ.set i c) :=
  w.setC i h (fun _ a m => by rw [ha] at m; simp at m) fun j c' a _ _ m _ => by rw [ha] at m; simp at m
theorem Wd.drop (w : Wd K C S G H0 H σ Γ) (i : Nat) : Wd K C S G H0 H σ (Γ.set i .u) := by
  refine ⟨w.fr, w.sl, by rw [List.length_set, w.len], fun j c' hj => ?_, fun j c' hj n => ?_, fun j k c1 c2 a h1 h2 m1 m2 => ?_, w.gh⟩
  · rcases set_cases hj with ⟨rfl, rfl, hl⟩ | ⟨ne, hj⟩
    · exact True.intro
    · exact w.at_ j c' hj
  · rcases set_cases hj with ⟨rfl, rfl, hl⟩ | ⟨ne, hj⟩
    · intro a m; simp [Ct.adr] at m
    · exact w.wr j c' hj n
  · rcases set_cases h1 with ⟨q1, q2, hl⟩ | ⟨ne, q1⟩
    · rw [q2] at m1; simp [Ct.adr] at m1
    · rcases set_cases h2 with ⟨q3, q4, _⟩ | ⟨ne2, q3⟩
      · rw [q4] at m2; simp [Ct.adr] at m2
      · exact w.dj j k c1 c2 a q1 q3 m1 m2
theorem Wd.fresh (w : Wd K C S G H0 H σ Γ) {p : Addr} (hp : H p = none) (h : Γ[i]? = some c) : p ∉ c.adr := fun m => by
  have hc : c ≠ .u := fun z => by subst z; simp [Ct.adr] at m
  obtain ⟨v, _, hv⟩ := w.get h hc
  obtain ⟨xs, e, _⟩ := hv.there m
  rw [hp] at e; cases e
theorem Wd.fresh0 (w : Wd K C S G H0 H σ Γ) {p : Addr} (hp : H p = none) : H0 p = none := by
  cases q : H0 p with
  | none => rfl
  | some o =>
    by_cases m : p ∈ S
    · obtain ⟨xs, e, _⟩ := w.sl p m
      rw [hp] at e; cases e
    · rw [w.fr p o q m] at hp; cases hp
theorem Wd.setN (w : Wd K C S G H0 H σ Γ) (i : Nat) {p : Addr} (e : Same H H') (hp : H p = none) (hx : CtAt K C H' (.ref p) (.l p ds)) :
    Wd K C S G H0 H' (σ.set i (some (.ref p))) (Γ.set i (.l p ds)) :=
  (w.mono e).setC i hx (fun _ a m => .inr (by rw [show a = p by simpa [Ct.adr] using m]; exact w.fresh0 hp)) fun j c' a _ hj m m' => by
    rw [show a = p by simpa [Ct.adr] using m] at m'
    exact w.fresh hp hj m'
theorem Wd.setO (w : Wd K C S G H0 H σ Γ) (i : Nat) {p : Addr} {u : HO} {ks : List (Addr × List V)} (e : Same H H') (hp : H p = none) (hx : CtAt K C H' (.ref p) (.o p u ks)) :
    Wd K C S G H0 H' (σ.set i (some (.ref p))) (Γ.set i (.o p u ks)) :=
  (w.mono e).setC i hx (fun _ a m => .inr (by rw [show a = p by simpa [Ct.adr] using m]; exact w.fresh0 hp)) fun j c' a _ hj m m' => by
    rw [show a = p by simpa [Ct.adr] using m] at m'
    exact w.fresh hp hj m'
theorem Wd.chgG {c0 c1 : Ct} (w : Wd K C S G H0 H σ Γ) {p : Addr} {u : HO} (hi : Γ[i]? = some c0) (h0 : c0.adr = [p]) (o0 : c0.own = true) (h1 : c1.adr = [p]) (o1 : c1.own = true) (hu : Wr u) (hv : ∀ v, CtAt K C H v c0 → CtAt K C (upd H p u) v c1) : Wd K C S G H0 (upd H p u) σ (Γ.set i c1) := by
  have nu : c0 ≠ .u := fun z => by rw [z] at o0; cases o0
  have nu1 : c1 ≠ .u := fun z => by rw [z] at o1; cases o1
  obtain ⟨v, e1, a1⟩ := w.get hi nu
  obtain ⟨ou, e2, wu⟩ := a1.there (a := p) (by rw [h0]; simp)
  have f : Fr [p] H (upd H p u) := Fr.upd
  have l := LT.oneW e2 wu
  have hw := w.wr i _ hi o0 p (by rw [h0]; simp)
  refine ⟨fun a o h n => ?_, fun a m => ?_, by rw [List.length_set, w.len], fun j c' hj => ?_, fun j c' hj n => ?_, fun j k c1' c2 a h1' h2 m1 m2 => ?_, fun q m => Td.mono (.fr l f) _ _ (w.gh q m)⟩
  · refine f a o (w.fr a o h n) fun m => ?_
    have e : a = p := by simpa using m
    subst e
    rcases hw with hw | hw
    · exact n hw
    · rw [hw] at h; cases h
  · by_cases e : a = p
    · subst e; exact ⟨u, upd_same, hu⟩
    · obtain ⟨zs, h, z⟩ := w.sl a m
      exact ⟨zs, by rw [upd_ne e]; exact h, z⟩
  · rcases set_cases hj with ⟨q1, q2, hl⟩ | ⟨ne, hj'⟩
    · rw [q2, q1]
      exact .mk e1 (hv v a1)
    · refine (w.at_ j c' hj').map fun u => CtAt.fr l f fun a m z => ne ?_
      have e : a = p := by simpa using z
      rw [e] at m
      exact (w.dj j i c' _ p hj' hi m (by rw [h0]; simp)).elim id fun z => by rw [o0] at z; cases z.2
  · rcases set_cases hj with ⟨rfl, rfl, hl⟩ | ⟨ne, hj⟩
    · intro a m
      rw [show a = p by rw [h1] at m; simpa using m]
      exact hw
    · exact w.wr j c' hj n
  · have old : ∀ {q : Nat} {c3 : Ct}, (Γ.set i c1)[q]? = some c3 → a ∈ c3.adr → ∃ c4, Γ[q]? = some c4 ∧ a ∈ c4.adr ∧ c4.own = c3.own := fun {q c3} h m => by
      rcases set_cases h with ⟨rfl, rfl, hl⟩ | ⟨ne, h⟩
      · exact ⟨_, hi, by rw [h0, ← h1]; exact m, by rw [o0, o1]⟩
      · exact ⟨_, h, m, rfl⟩
    obtain ⟨c3, h3, m3, o3⟩ := old h1' m1
    obtain ⟨c4, h4, m4, o4⟩ := old h2 m2
    rw [← o3, ← o4]
    exact w.dj j k c3 c4 a h3 h4 m3 m4
theorem Wd.chg (w : Wd K C S G H0 H σ Γ) {p : Addr} {xs : List V} (hi : Γ[i]? = some (.l p ds)) (ha : TdAll K H xs es) : Wd K C S G H0 (upd H p (.lst xs)) σ (Γ.set i (.l p es)) :=
  w.chgG hi rfl rfl rfl rfl True.intro fun v a => by
    obtain ⟨e1, ys, e2, _⟩ := a
    exact ⟨e1, xs, upd_same, TdAll.mono (.fr (LT.one e2) Fr.upd) _ _ ha⟩
theorem Wd.drawn (w : Wd K C S G H0 H σ Γ) {p q : Addr} (hi : Γ[i]? = some (.h p q)) (f : Fr [p, q] H H') (hs : CtAt K C H' (.ref p) (.h p q)) : Wd K C S G H0 H' σ Γ := by
  obtain ⟨v, e1, rfl, ne, s, k, cs, h1, h2, _⟩ := w.get hi
  have l : LT [p, q] H := fun a m => by
    have e : a = p ∨ a = q := by simpa using m
    rcases e with e | e
    · subst e; exact ⟨_, h1, True.intro⟩
    · subst e; exact ⟨_, h2, True.intro⟩
  have hw := w.wr i _ hi rfl
  refine ⟨fun a o h n => ?_, fun a m => ?_, w.len, fun j c' hj => ?_, w.wr, w.dj, fun q m => Td.mono (.fr l f) _ _ (w.gh q m)⟩
  · refine f a o (w.fr a o h n) fun m => ?_
    rcases hw a (by simpa [Ct.adr] using m) with z | z
    · exact n z
    · rw [z] at h; cases h
  · by_cases e : a ∈ [p, q]
    · obtain ⟨_, _, s', k', cs', g1, g2, _⟩ := hs
      have e : a = p ∨ a = q := by simpa using e
      rcases e with e | e
      · subst e; exact ⟨_, g1, True.intro⟩
      · subst e; exact ⟨_, g2, True.intro⟩
    · obtain ⟨zs, h, z⟩ := w.sl a m
      exact ⟨zs, f _ _ h e, z⟩
  · by_cases e : j = i
    · subst e
      rw [hi] at hj; cases hj
      exact ⟨_, e1, hs⟩
    · refine (w.at_ j c' hj).map fun u => CtAt.fr l f fun a m z => e ?_
      exact (w.dj j i c' _ a hj hi m (by simpa [Ct.adr] using z)).elim id fun z => by cases z.2
end
def EvC (K : PySem.W.Frag) (C : Addr) (te : TE) (σ : L2.St) (H : Hp) (c : Ct) : Prop := ∀ H1, Same H H1 → ∀ Q : VK, (∀ v H2, Same H1 H2 → CtAt K C H2 v c → Q v H2) → te σ H1 Q
def EvN (K : PySem.W.Frag) (C : Addr) (te : TE) (σ : L2.St) (H : Hp) (ds : List PyData) : Prop := ∀ H1, Same H H1 → ∀ Q : VK, (∀ p H2, H1 p = none → Same H1 H2 → CtAt K C H2 (.ref p) (.l p ds) → Q (.ref p) H2) → te σ H1 Q
def EvT (tt : TT) (σ : L2.St) (H : Hp) (b : Bool) : Prop := ∀ H1, Same H H1 → ∀ Q : Bool → Hp → Prop, (∀ H2, Same H1 H2 → Q b H2) → tt σ H1 Q
inductive Ag where
  | c (c : Ct)
  | n (ds : List PyData)
def AgAt (K : PySem.W.Frag) (C : Addr) (H : Hp) (v : V) : Ag → Prop
  | .c c => CtAt K C H v c
  | .n ds => ∃ p xs, v = .ref p ∧ H p = some (.lst xs) ∧ TdAll K H xs ds
theorem AgAt.mono (e : Same H H') : ∀ {a : Ag}, AgAt K C H v a → AgAt K C H' v a
  | .c _, h => CtAt.mono e h
  | .n ds, ⟨p, xs, a, b, c⟩ => ⟨p, xs, a, e _ _ b, TdAll.mono (.of e) ds xs c⟩
def Args (K : PySem.W.Frag) (C : Addr) (H : Hp) : List V → List Ag → Prop
  | [], [] => True
  | v :: vs, a :: as => AgAt K C H v a ∧ Args K C H vs as
  | _, _ => False
theorem Args.mono (e : Same H H') : ∀ {vs : List V} {as : List Ag}, Args K C H vs as → Args K C H' vs as
  | [], [], _ => True.intro
  | _ :: _, _ :: _, ⟨a, b⟩ => ⟨a.mono e, Args.mono e b⟩
  | [], _ :: _, h => h.elim
  | _ :: _, [], h => h.elim
theorem Args.length : ∀ {vs : List V} {as : List Ag}, Args K C H vs as → vs.length = as.length
  | [], [], _ => rfl
  | _ :: _, _ :: _, ⟨_, b⟩ => congrArg (· + 1) (Args.length b)
  | [], _ :: _, h => h.elim
  | _ :: _, [], h => h.elim
def EvA (K : PySem.W.Frag) (C : Addr) (ta : TA) (σ : L2.St) (H : Hp) (as : List Ag) : Prop := ∀ H1, Same H H1 → ∀ Q : List V → Hp → Prop, (∀ vs H2, Same H1 H2 → Args K C H2 vs as → Q vs H2) → ta σ H1 Q
def EvO (to : TO) (σ : L2.St) (H : Hp) (o : Option Int) : Prop := ∀ H1, Same H H1 → ∀ Q : Option Int → Hp → Prop, (∀ H2, Same H1 H2 → Q o H2) → to σ H1 Q
section
variable {G : List (V × PyData)} {S : List Addr} {H0 : Hp} {σ : L2.St} {Γ : List Ct} {i : Nat} {c : Ct} {te ta tb tc : TE} {t u : TT}
theorem same_new {p : Addr} {o : HO} (h : H p = none) : Same H (upd H p o) := fun b x e => by
  rw [upd_ne (ne_of_none e h)]
  exact e
theorem EvC.mono (e : Same H H') (h : EvC K C te σ H c) : EvC K C te σ H' c := fun H1 e1 => h H1 (e.trans e1)
theorem EvN.mono (e : Same H H') (h : EvN K C te σ H ds) : EvN K C te σ H' ds := fun H1 e1 => h H1 (e.trans e1)
theorem EvT.mono {b : Bool} (e : Same H H') (h : EvT t σ H b) : EvT t σ H' b := fun H1 e1 => h H1 (e.trans e1)
theorem ev_var (w : Wd K C S G H0 H σ Γ) (h : Γ[i]? = some c) (hc : c ≠ .u := by intro z; cases z) : EvC K C (tVar i) σ H c := fun H1 e1 Q q => by
  obtain ⟨v, e, a⟩ := w.get h hc
  exact ⟨v, e, q v H1 (Same.refl H1) (a.mono e1)⟩
theorem ev_int {k : Int} : EvC K C (tC (.int k)) σ H (.d (.int k)) := fun H1 _ Q q => q _ H1 (Same.refl H1) (.int k)
theorem ev_bl {k : Bool} : EvC K C (tC (.bl k)) σ H (.d (.bool k)) := fun H1 _ Q q => q _ H1 (Same.refl H1) (.bl k)
theorem ev_str {k : Str} : EvC K C (tC (.str k)) σ H (.d (.str k)) := fun H1 _ Q q => q _ H1 (Same.refl H1) (.str k)
theorem ev_non : EvC K C (tC .non) σ H (.d .none) := fun H1 _ Q q => q _ H1 (Same.refl H1) .non
theorem ev_cast {c' : Ct} (h : EvC K C te σ H c) (e : c = c') : EvC K C te σ H c' := e ▸ h
theorem ev_d {d e : PyData} (h : EvC K C te σ H (.d d)) (q : d = e) : EvC K C te σ H (.d e) := q ▸ h
theorem et_cast {b b' : Bool} (h : EvT t σ H b) (e : b = b') : EvT t σ H b' := e ▸ h
section
variable {X : Cx}
theorem laidF {pins : List (Addr × Obj)} {σ : L2.St} {H : Hp} {s : Shared} {xs : List V} {its : List Value} (I : Inv X pins σ H s) (r : Vals xs its) (z : xs.length ≤ sizeLine) :
    Inv X pins σ (upd H s.heap.objs.size (.frz { cls := .type "tuple", data := .seq its.toArray } (.tup xs))) { s with heap := s.heap.push { cls := .type "tuple", data := .seq its.toArray } } :=
  I.laid (t' := s.toks) (fun b u e => Heap.get?_push_of_some _ e) (Nat.le_refl _) ⟨Heap.get?_push_size _ rfl, z, its, r, ⟨_, Heap.get?_push_size _ rfl, rfl, _, rfl⟩⟩
def tTupF (t : TA) : TE := fun σ H Q => t σ H fun xs H1 => xs.length ≤ sizeLine ∧ ∀ p o, H1 p = none → o.dict = none → Q (.ref p) (upd H1 p (.frz o (.tup xs)))
theorem pe_tupF {es : List Expr} {t : TA} {x1 pos} (h : PA X es t) : PE X (.Tuple es x1 pos) (tTupF t) := by
  refine ⟨fun pins s σ H Q I hq => ?_⟩
  refine wpAny_Tuple_spliced (thn (h.run pos pins s σ H _ I hq) fun us s1 ⟨xs, H1, I1, r, z, q⟩ => ⟨by rw [← r.length]; exact z, ?_⟩)
  exact ⟨.ref s1.heap.objs.size, _, laidF I1 r z, rfl, q _ _ (I1.hok.fresh (Nat.le_refl _)) rfl⟩
def rTupleOf (K : PySem.W.Frag) : List V → Hp → VK → Prop := fun xs H Q => ∃ p ys, xs = [.ref p] ∧ ((SqL K H p ys ∧ ∀ l o, H l = none → o.dict = none → Q (.ref l) (upd H l (.frz o (.tup ys)))) ∨ (SqT K H p ys ∧ Q (.ref p) H))
theorem call_tuple_of' : CallR X (.type "tuple") (rTupleOf X.K) := fun pins s σ H xs us Q I r ⟨p, ys, ex, h⟩ => by
  subst ex
  obtain ⟨u, rfl, ru⟩ := vals1 r
  obtain rfl : u = .ref p := ru
  refine h.elim (fun ⟨lst, q⟩ => ?_) fun ⟨tup, q⟩ => ?_
  · obtain ⟨its, rv, here, few⟩ := I.list lst
    exact call_tuple_list here.isList (fun h1 k => have J := I.kept (t' := s.toks) k; ⟨.ref _, _, laidF J rv few, rfl, q _ _ (J.hok.fresh (Nat.le_refl _)) rfl⟩) (by have := rv.length; rw [List.size_toArray]; omega)
  · obtain ⟨its, _, here, _⟩ := I.tuple tup
    exact call_tuple_same here ⟨.ref p, H, I, rfl, q⟩
def rCatF (K : PySem.W.Frag) : R2 := fun x y H Q => ∃ a b xs ys, x = .ref a ∧ y = .ref b ∧ SqT K H a xs ∧ SqT K H b ys ∧ xs.length + ys.length ≤ sizeLine ∧
  (xs = [] → Q (.ref b) H) ∧ (xs ≠ [] → ys = [] → Q (.ref a) H) ∧ (xs ≠ [] → ys ≠ [] → ∀ p o, H p = none → o.dict = none → Q (.ref p) (upd H p (.frz o (.tup (xs ++ ys)))))
theorem op_catF : OpR X (binaryOp .Add) (rCatF X.K) := by
  intro pins s σ H x y v u Q I rx ry h
  obtain ⟨a, b, xs, ys, rfl, rfl, ha, hb, hz, q0, q1, q2⟩ := h
  cases rx
  cases ry
  obtain ⟨its, r1, p1, _⟩ := I.tuple ha
  obtain ⟨its2, r2, p2, _⟩ := I.tuple hb
  by_cases hx : xs = []
  · subst hx
    cases r1
    exact cat_tup0 p1 p2 ⟨.ref b, H, I, rfl, q0 rfl⟩
  · refine HT.cat_tup p1 p2 (fun z => hx (r1.nil_iff.mp z)) (fun z => ⟨.ref a, H, I, rfl, q1 hx (r2.nil_iff.mp z)⟩) (fun z => ?_) (by rw [← r1.length, ← r2.length]; exact hz)
    exact ⟨.ref s.heap.objs.size, _, laidF I (r1.append r2) (by rw [List.length_append]; exact hz), rfl, q2 hx (fun w => z (r2.nil_iff.mpr w)) _ _ (I.hok.fresh (Nat.le_refl _)) rfl⟩
def rSlF (K : PySem.W.Frag) : V → Option Int → Option Int → Hp → VK → Prop := fun x lo hi H Q => ∃ a xs, x = .ref a ∧ SqT K H a xs ∧
  (HT.sIx xs.length 0 lo = 0 ∧ HT.sIx xs.length xs.length hi = xs.length → Q (.ref a) H) ∧ (¬ (HT.sIx xs.length 0 lo = 0 ∧ HT.sIx xs.length xs.length hi = xs.length) → ∀ p o, H p = none → o.dict = none → Q (.ref p) (upd H p (.frz o (.tup (cutV xs lo hi)))))
theorem sl_tupF : SlR X (rSlF X.K) := by
  intro pins s σ H x v vl vu lo hi sl Q I rx hs pl pu h
  obtain ⟨a, xs, rfl, hx, q1, q2⟩ := h
  cases rx
  obtain ⟨its, r, ht, hz⟩ := I.tuple hx
  have hlen : its.toArray.size = xs.length := by rw [List.size_toArray]; exact r.length.symm
  refine ⟨"tuple", _, PyProof.Rows.slot_tuple_getitem.lookup, ht.typeIs, ?_⟩
  by_cases hw : HT.sIx xs.length 0 lo = 0 ∧ HT.sIx xs.length xs.length hi = xs.length
  · exact getItem_tuple_whole ht hs pl pu (by rw [hlen]; exact hw) ⟨.ref a, H, I, rfl, q1 hw⟩
  · refine HT.getItem_tuple_cut ht hs pl pu (by rw [hlen]; exact hw) ?_ (by rw [hlen]; exact hz)
    rw [hlen]
    exact ⟨.ref s.heap.objs.size, _, laidF I ((r.drop _).take _) (Nat.le_trans (cutV_length xs lo hi) hz), rfl, q2 hw _ _ (I.hok.fresh (Nat.le_refl _)) rfl⟩
end
theorem new_t {p : Addr} {xs : List V} {o : Obj} (hp : H p = none) (ho : o.dict = none) (d : TdAll K H xs ds) : CtAt K C (upd H p (.frz o (.tup xs))) (.ref p) (.d (.tuple ds)) := .tup ⟨o, upd_same, ho⟩ (TdAll.mono (.of (same_new hp)) _ _ d)
theorem ev_op2 {r : R2} {c1 c2 c3 : Ct} (ha : EvC K C ta σ H c1) (hb : EvC K C tb σ H c2)
    (hr : ∀ H1, Same H H1 → ∀ x y, CtAt K C H1 x c1 → CtAt K C H1 y c2 → ∀ Q : VK, (∀ v H2, Same H1 H2 → CtAt K C H2 v c3 → Q v H2) → r x y H1 Q) : EvC K C (tOp r ta tb) σ H c3 := fun H1 e1 Q q =>
  ha H1 e1 _ fun x H2 e2 a2 => hb H2 (e1.trans e2) _ fun y H3 e3 a3 => hr H3 ((e1.trans e2).trans e3) x y (a2.mono e3) a3 Q fun v H4 e4 a4 => q v H4 ((e2.trans e3).trans e4) a4
theorem ev_i0 {g : Int → Int → V} {k j : Int} (ha : EvC K C ta σ H (.d (.int k))) (hb : EvC K C tb σ H (.d (.int j))) (hd : ∀ H, Td K H (g k j) d) : EvC K C (tOp (rI0 g) ta tb) σ H (.d d) :=
  ev_op2 ha hb fun H1 _ x y a1 a2 Q q => ⟨k, j, a1.int_of, a2.int_of, q _ H1 (Same.refl H1) (hd H1)⟩
theorem ev_iC {P : Int → Int → Prop} {g : Int → Int → V} {k j : Int} (ha : EvC K C ta σ H (.d (.int k))) (hb : EvC K C tb σ H (.d (.int j))) (hP : P k j) (hd : ∀ H, Td K H (g k j) d) : EvC K C (tOp (rI P g) ta tb) σ H (.d d) :=
  ev_op2 ha hb fun H1 _ x y a1 a2 Q q => ⟨k, j, a1.int_of, a2.int_of, hP, q _ H1 (Same.refl H1) (hd H1)⟩
def rAddU (K : PySem.W.Frag) : R2 := fun x y H Q => rI0 (fun i j => .int (i + j)) x y H Q ∨ (rCatF K x y H Q ∨ rCat x y H Q)
theorem op_addU {X : Cx} : OpR X (binaryOp .Add) (rAddU X.K) := op_add.or (op_catF.or op_cat)
theorem ev_addI {k j : Int} (ha : EvC K C ta σ H (.d (.int k))) (hb : EvC K C tb σ H (.d (.int j))) : EvC K C (tOp (rAddU K) ta tb) σ H (.d (.int (k + j))) :=
  ev_op2 ha hb fun H1 _ x y a1 a2 Q q => .inl ⟨k, j, a1.int_of, a2.int_of, q _ H1 (Same.refl H1) (.int _)⟩
theorem ev_addT (ha : EvC K C ta σ H (.d (.tuple ds))) (hb : EvC K C tb σ H (.d (.tuple es))) (hl : ds.length + es.length ≤ 10000000) : EvC K C (tOp (rAddU K) ta tb) σ H (.d (.tuple (ds ++ es))) :=
  ev_op2 ha hb fun H1 _ x y a1 a2 Q q => .inr (.inl (by
    obtain ⟨a, xs, rfl, s1, d1⟩ := Td.tup_of a1
    obtain ⟨b, ys, rfl, s2, d2⟩ := Td.tup_of a2
    have l1 := d1.length
    have l2 := d2.length
    refine ⟨a, b, xs, ys, rfl, rfl, s1.sq, s2.sq, Nat.le_trans (by omega) (show 10000000 ≤ sizeLine by decide), fun e => ?_, fun _ e => ?_, fun _ _ p o hp ho => ?_⟩
    · subst e
      cases d1
      exact q _ H1 (Same.refl H1) a2
    · subst e
      cases d2
      refine q _ H1 (Same.refl H1) ?_
      rw [List.append_nil]
      exact a1
    · exact q _ _ (same_new hp) (new_t hp ho (d1.append d2))))
theorem ev_eqD {x1 x2 : PyData} (ha : EvC K C ta σ H (.d x1)) (hb : EvC K C tb σ H (.d x2)) (h1 : SeqAt.shaped x1 = true) (h2 : SeqAt.shaped x2 = true) : EvC K C (tOp (rEqD K) ta tb) σ H (.d (.bool (PyData.eqv x1 x2))) :=
  ev_op2 ha hb fun H1 _ x y a1 a2 Q q => ⟨x1, x2, Td.dp _ _ a1, Td.dp _ _ a2, h1, h2, q _ H1 (Same.refl H1) (.bl _)⟩
theorem ev_neD {x1 x2 : PyData} (ha : EvC K C ta σ H (.d x1)) (hb : EvC K C tb σ H (.d x2)) (h1 : SeqAt.shaped x1 = true) (h2 : SeqAt.shaped x2 = true) : EvC K C (tOp (rNeD K) ta tb) σ H (.d (.bool (!PyData.eqv x1 x2))) :=
  ev_op2 ha hb fun H1 _ x y a1 a2 Q q => ⟨x1, x2, Td.dp _ _ a1, Td.dp _ _ a2, h1, h2, q _ H1 (Same.refl H1) (.bl _)⟩
theorem shaped_int (k : Int) : SeqAt.shaped (.int k) = true := by
  show ((PyData.int k).canLay0 && decide ((PyData.int k).depth ≤ 64)) = true
  simp [PyData.canLay0, PyData.depth]
theorem lay_iL : ∀ l : List Int, PyData.canLayAll0 (iL l) = true
  | [] => by simp [iL, PyData.canLayAll0]
  | k :: l => by
    have := lay_iL l
    simp only [iL] at this
    simp [iL, PyData.canLayAll0, PyData.canLay0, this]
theorem depth_iL : ∀ l : List Int, PyData.depthAll (iL l) ≤ 1
  | [] => by simp [iL, PyData.depthAll]
  | k :: l => by
    have := depth_iL l
    simp only [iL] at this
    simp only [iL, List.map_cons, PyData.depthAll, PyData.depth]
    omega
theorem shaped_row (l : List Int) : SeqAt.shaped (row l) = true := by
  show ((row l).canLay0 && decide ((row l).depth ≤ 64)) = true
  have h1 := depth_iL l
  rw [Bool.and_eq_true]
  refine ⟨?_, decide_eq_true ?_⟩
  · simp only [row, PyData.canLay0]; exact lay_iL l
  · simp only [row, PyData.depth]; omega
theorem eqv_iL : ∀ a b : List Int, PyData.eqvAll (iL a) (iL b) = decide (a = b)
  | [], [] => by simp [iL, PyData.eqvAll]
  | [], _ :: _ => by simp [iL, PyData.eqvAll]
  | _ :: _, [] => by simp [iL, PyData.eqvAll]
  | x :: a, y :: b => by
    have ih := eqv_iL a b
    simp only [iL] at ih
    simp only [iL, List.map_cons, PyData.eqvAll, PyData.eqv, ih]
    by_cases e : x = y
    · subst e; simp
    · simp [e]
theorem eqv_row (a b : List Int) : PyData.eqv (row a) (row b) = decide (a = b) := by
  show PyData.eqv (.tuple (iL a)) (.tuple (iL b)) = _
  simp only [PyData.eqv]
  exact eqv_iL a b
theorem eqv_int (a b : Int) : PyData.eqv (.int a) (.int b) = decide (a = b) := by
  simp only [PyData.eqv]
  by_cases e : a = b
  · subst e; simp
  · simp [e]
theorem ev_eqI {k j : Int} (ha : EvC K C ta σ H (.d (.int k))) (hb : EvC K C tb σ H (.d (.int j))) : EvC K C (tOp (rEqD K) ta tb) σ H (.d (.bool (decide (k = j)))) :=
  eqv_int k j ▸ ev_eqD ha hb (shaped_int _) (shaped_int _)
theorem ev_neI {k j : Int} (ha : EvC K C ta σ H (.d (.int k))) (hb : EvC K C tb σ H (.d (.int j))) : EvC K C (tOp (rNeD K) ta tb) σ H (.d (.bool (!decide (k = j)))) :=
  eqv_int k j ▸ ev_neD ha hb (shaped_int _) (shaped_int _)
theorem ev_eqR {k j : List Int} (ha : EvC K C ta σ H (.d (row k))) (hb : EvC K C tb σ H (.d (row j))) : EvC K C (tOp (rEqD K) ta tb) σ H (.d (.bool (decide (k = j)))) :=
  eqv_row k j ▸ ev_eqD ha hb (shaped_row _) (shaped_row _)
theorem ev_neR {k j : List Int} (ha : EvC K C ta σ H (.d (row k))) (hb : EvC K C tb σ H (.d (row j))) : EvC K C (tOp (rNeD K) ta tb) σ H (.d (.bool (!decide (k = j)))) :=
  eqv_row k j ▸ ev_neD ha hb (shaped_row _) (shaped_row _)
def isN : PyData → Bool
  | .none => true
  | _ => false
theorem Td.isN : ∀ {d : PyData} {v : V}, Td K H v d → decide (v = .non) = isN d
  | _, _, .non => rfl
  | _, _, .bl _ => rfl
  | _, _, .int _ => rfl
  | _, _, .str _ => rfl
  | _, _, .tup _ _ => rfl
  | _, _, .lst _ _ => rfl
theorem ev_isN (ha : EvC K C ta σ H (.d d)) : EvC K C (tOp rIsN ta (tC .non)) σ H (.d (.bool (isN d))) :=
  ev_op2 ha ev_non fun H1 _ x y a1 a2 Q q => ⟨a2.non_of, q _ H1 (Same.refl H1) (by rw [Td.isN a1]; exact .bl _)⟩
theorem ev_notN (ha : EvC K C ta σ H (.d d)) : EvC K C (tOp rNotN ta (tC .non)) σ H (.d (.bool (!isN d))) :=
  ev_op2 ha ev_non fun H1 _ x y a1 a2 Q q => ⟨a2.non_of, q _ H1 (Same.refl H1) (by rw [Td.isN a1]; exact .bl _)⟩
theorem et_test {b : Bool} (h : EvC K C te σ H (.d (.bool b))) : EvT (tTest te) σ H b := fun H1 e1 Q q => h H1 e1 _ fun v H2 e2 a => ⟨b, a.bl_of, q H2 e2⟩
theorem et_B {b : Bool} (h : EvC K C te σ H (.d (.bool b))) : EvT (tB te) σ H b := fun H1 e1 Q q => h H1 e1 _ fun v H2 e2 a => ⟨b, a.bl_of, q H2 e2⟩
theorem et_and : ∀ {a b : Bool}, EvT t σ H a → (a = true → EvT u σ H b) → EvT (tAnd t u) σ H (a && b)
  | false, _, h, _ => fun H1 e _ q => h H1 e _ q
  | true, _, h, k => fun H1 e _ q => h H1 e _ fun H2 e2 => k rfl H2 (e.trans e2) _ fun H3 e3 => q H3 (e2.trans e3)
theorem et_or : ∀ {a b : Bool}, EvT t σ H a → (a = false → EvT u σ H b) → EvT (tOr t u) σ H (a || b)
  | true, _, h, _ => fun H1 e _ q => h H1 e _ q
  | false, _, h, k => fun H1 e _ q => h H1 e _ fun H2 e2 => k rfl H2 (e.trans e2) _ fun H3 e3 => q H3 (e2.trans e3)
theorem et_not {a : Bool} (h1 : EvT t σ H a) : EvT (tNot t) σ H (!a) := fun H1 e _ q => h1 H1 e _ fun H2 e2 => q H2 e2
theorem ev_andV {a b : Bool} (h1 : EvC K C ta σ H (.d (.bool a))) (h2 : a = true → EvC K C tb σ H (.d (.bool b))) : EvC K C (tAndV ta tb) σ H (.d (.bool (a && b))) := fun H1 e Q q => h1 H1 e _ fun v H2 e2 z => ⟨a, z.bl_of, by
  cases a with
  | true => exact h2 rfl H2 (e.trans e2) Q fun v H3 e3 => q v H3 (e2.trans e3)
  | false => exact q _ H2 e2 (.bl false)⟩
theorem ev_orV {a b : Bool} (h1 : EvC K C ta σ H (.d (.bool a))) (h2 : a = false → EvC K C tb σ H (.d (.bool b))) : EvC K C (tOrV ta tb) σ H (.d (.bool (a || b))) := fun H1 e Q q => h1 H1 e _ fun v H2 e2 z => ⟨a, z.bl_of, by
  cases a with
  | true => exact q _ H2 e2 (.bl true)
  | false => exact h2 rfl H2 (e.trans e2) Q fun v H3 e3 => q v H3 (e2.trans e3)⟩
theorem ev_notV {a : Bool} (h1 : EvC K C ta σ H (.d (.bool a))) : EvC K C (tNotV ta) σ H (.d (.bool (!a))) := fun H1 e Q q => h1 H1 e _ fun v H2 e2 z => ⟨a, z.bl_of, q _ H2 e2 (.bl _)⟩
theorem ev_if {b : Bool} (h : EvT t σ H b) (h1 : b = true → EvC K C ta σ H c) (h2 : b = false → EvC K C tb σ H c) : EvC K C (tIf t ta tb) σ H c := fun H1 e Q q => h H1 e _ fun H2 e2 => by
  cases b with
  | true => exact h1 rfl H2 (e.trans e2) Q fun v H3 e3 => q v H3 (e2.trans e3)
  | false => exact h2 rfl H2 (e.trans e2) Q fun v H3 e3 => q v H3 (e2.trans e3)
theorem ev_chain {g g' : Int → Int → Bool} {k j l : Int} (ha : EvC K C ta σ H (.d (.int k))) (hb : EvC K C tb σ H (.d (.int j))) (hc : EvC K C tc σ H (.d (.int l))) :
    EvC K C (tChain (rI0 fun i j => .bl (g i j)) (rI0 fun i j => .bl (g' i j)) ta tb tc) σ H (.d (.bool (g k j && g' j l))) := fun H1 e1 Q q =>
  ha H1 e1 _ fun x H2 e2 a2 => hb H2 (e1.trans e2) _ fun y H3 e3 a3 => ⟨k, j, a2.int_of, a3.int_of, g k j, rfl, by
    cases h : g k j with
    | true =>
      refine hc H3 ((e1.trans e2).trans e3) _ fun z H4 e4 a4 => ⟨j, l, a3.int_of, a4.int_of, ?_⟩
      have z := q (.bl (g' j l)) H4 ((e2.trans e3).trans e4)
      rw [h, Bool.true_and] at z
      exact z (.bl _)
    | false =>
      have z := q (.bl false) H3 (e2.trans e3)
      rw [h, Bool.false_and] at z
      exact z (.bl _)⟩
theorem ea_nil : EvA K C tNil σ H [] := fun H1 _ Q q => q [] H1 (Same.refl H1) True.intro
theorem ea_cons {tr : TA} {as : List Ag} (h : EvC K C te σ H c) (hr : EvA K C tr σ H as) : EvA K C (tCons te tr) σ H (.c c :: as) := fun H1 e1 Q q =>
  h H1 e1 _ fun v H2 e2 a => hr H2 (e1.trans e2) _ fun vs H3 e3 b => q (v :: vs) H3 (e2.trans e3) ⟨CtAt.mono e3 a, b⟩
theorem ea_consN {tr : TA} {as : List Ag} (h : EvN K C te σ H ds) (hr : EvA K C tr σ H as) : EvA K C (tCons te tr) σ H (.n ds :: as) := fun H1 e1 Q q =>
  h H1 e1 _ fun p H2 _ e2 a => hr H2 (e1.trans e2) _ fun vs H3 e3 b => q (.ref p :: vs) H3 (e2.trans e3) ⟨by
    obtain ⟨_, xs, h1, h2⟩ := CtAt.mono e3 a
    exact ⟨p, xs, rfl, h1, h2⟩, b⟩
theorem ea_consL {tr : TA} {as : List Ag} {p : Addr} (h : EvC K C te σ H (.l p ds)) (hr : EvA K C tr σ H as) : EvA K C (tCons te tr) σ H (.n ds :: as) := fun H1 e1 Q q =>
  h H1 e1 _ fun v H2 e2 a => hr H2 (e1.trans e2) _ fun vs H3 e3 b => q (v :: vs) H3 (e2.trans e3) ⟨by
    obtain ⟨h0, xs, h1, h2⟩ := CtAt.mono e3 a
    exact ⟨p, xs, h0, h1, h2⟩, b⟩
theorem ea_consS {tr : TA} {as : List Ag} {p : Addr} (h : EvC K C te σ H (.s p ds)) (hr : EvA K C tr σ H as) : EvA K C (tCons te tr) σ H (.n ds :: as) := fun H1 e1 Q q =>
  h H1 e1 _ fun v H2 e2 a => hr H2 (e1.trans e2) _ fun vs H3 e3 b => q (v :: vs) H3 (e2.trans e3) ⟨by
    obtain ⟨h0, xs, h1, h2⟩ := CtAt.mono e3 a
    exact ⟨p, xs, h0, h1, h2⟩, b⟩
def EvD (K : PySem.W.Frag) (C : Addr) (ta : TA) (σ : L2.St) (H : Hp) (ds : List PyData) : Prop := ∀ H1, Same H H1 → ∀ Q : List V → Hp → Prop, (∀ vs H2, Same H1 H2 → TdAll K H2 vs ds → Q vs H2) → ta σ H1 Q
theorem ed_nil : EvD K C tNil σ H [] := fun H1 _ Q q => q [] H1 (Same.refl H1) .nil
theorem ed_cons {tr : TA} (h : EvC K C te σ H (.d d)) (hr : EvD K C tr σ H ds) : EvD K C (tCons te tr) σ H (d :: ds) := fun H1 e1 Q q =>
  h H1 e1 _ fun v H2 e2 a => hr H2 (e1.trans e2) _ fun vs H3 e3 b => q (v :: vs) H3 (e2.trans e3) (.cons (Td.mono (.of e3) _ _ a) b)
theorem ev_tup {ts : TA} (h : EvD K C ts σ H ds) (hl : ds.length ≤ 10000000 := by simp) : EvC K C (tTupF ts) σ H (.d (.tuple ds)) := fun H1 e1 Q q =>
  h H1 e1 _ fun vs H2 e2 a => ⟨by rw [a.length]; exact Nat.le_trans hl (by decide), fun p o hp ho => q _ _ (e2.trans (same_new hp)) (new_t hp ho a)⟩
theorem en_lst {ts : TA} (h : EvD K C ts σ H ds) (hl : ds.length ≤ 10000000 := by simp) : EvN K C (tLst ts) σ H ds := fun H1 e1 Q q =>
  h H1 e1 _ fun vs H2 e2 a => ⟨by rw [a.length]; exact Nat.le_trans hl (by decide), fun p hp => q p _ (by
    cases z : H1 p with
    | none => rfl
    | some o => rw [e2 p o z] at hp; cases hp) (e2.trans (same_new hp)) ⟨rfl, vs, upd_same, TdAll.mono (.of (same_new hp)) _ _ a⟩⟩
theorem fresh_back {p : Addr} (e : Same H H') (h : H' p = none) : H p = none := e.free h
theorem ev_cb {r : List V → Hp → VK → Prop} {ts : TA} {as : List Ag} (h : EvA K C ts σ H as) (hr : ∀ H1, Same H H1 → ∀ vs, Args K C H1 vs as → ∀ Q : VK, (∀ v H2, Same H1 H2 → CtAt K C H2 v c → Q v H2) → r vs H1 Q) : EvC K C (tCB r ts) σ H c := fun H1 e1 Q q =>
  h H1 e1 _ fun vs H2 e2 a => hr H2 (e1.trans e2) vs a Q fun v H3 e3 => q v H3 (e2.trans e3)
theorem Args.one {vs : List V} {a : Ag} (h : Args K C H vs [a]) : ∃ v, vs = [v] ∧ AgAt K C H v a := by
  match vs, h with
  | [v], ⟨h, _⟩ => exact ⟨v, rfl, h⟩
theorem Args.two {vs : List V} {a b : Ag} (h : Args K C H vs [a, b]) : ∃ v w, vs = [v, w] ∧ AgAt K C H v a ∧ AgAt K C H w b := by
  match vs, h with
  | [v, w], ⟨h, g, _⟩ => exact ⟨v, w, rfl, h, g⟩
theorem Args.three {vs : List V} {a b c : Ag} (h : Args K C H vs [a, b, c]) : ∃ v w x, vs = [v, w, x] ∧ AgAt K C H v a ∧ AgAt K C H w b ∧ AgAt K C H x c := by
  match vs, h with
  | [v, w, x], ⟨h, g, f, _⟩ => exact ⟨v, w, x, rfl, h, g, f⟩
def rLen (K : PySem.W.Frag) : List V → Hp → VK → Prop := fun xs H Q => ∃ x n, xs = [x] ∧ LenV K x H n ∧ Q (.int n) H
theorem call_len1 {X : Cx} : CallR X (.builtin "len") (rLen X.K) := call_len
theorem ev_lenT (h : EvC K C te σ H (.d (.tuple ds))) : EvC K C (tCB (rLen K) (tCons te tNil)) σ H (.d (.int ds.length)) := ev_cb (ea_cons h ea_nil) fun H1 _ vs a Q q => by
  obtain ⟨v, rfl, a1⟩ := a.one
  obtain ⟨p, xs, rfl, s, d⟩ := Td.tup_of a1
  exact ⟨_, ds.length, rfl, .inr ⟨xs, s.sq, d.length.symm⟩, q _ H1 (Same.refl H1) (.int _)⟩
theorem ev_lenN (h : EvN K C te σ H ds) : EvC K C (tCB (rLen K) (tCons te tNil)) σ H (.d (.int ds.length)) := ev_cb (ea_consN h ea_nil) fun H1 _ vs a Q q => by
  obtain ⟨v, rfl, p, xs, rfl, s, d⟩ := a.one
  exact ⟨_, ds.length, rfl, .inl ⟨xs, SqL.of s, d.length.symm⟩, q _ H1 (Same.refl H1) (.int _)⟩
theorem ev_lenL {p : Addr} (h : EvC K C te σ H (.l p ds)) : EvC K C (tCB (rLen K) (tCons te tNil)) σ H (.d (.int ds.length)) := ev_cb (ea_consL h ea_nil) fun H1 _ vs a Q q => by
  obtain ⟨v, rfl, p, xs, rfl, s, d⟩ := a.one
  exact ⟨_, ds.length, rfl, .inl ⟨xs, SqL.of s, d.length.symm⟩, q _ H1 (Same.refl H1) (.int _)⟩
theorem ev_lenS {p : Addr} (h : EvC K C te σ H (.s p ds)) : EvC K C (tCB (rLen K) (tCons te tNil)) σ H (.d (.int ds.length)) := ev_cb (ea_consS h ea_nil) fun H1 _ vs a Q q => by
  obtain ⟨v, rfl, p, xs, rfl, s, d⟩ := a.one
  exact ⟨_, ds.length, rfl, .inl ⟨xs, SqL.of s, d.length.symm⟩, q _ H1 (Same.refl H1) (.int _)⟩
def rMax2 : List V → Hp → VK → Prop := fun xs H Q => ∃ i j, xs = [.int i, .int j] ∧ Q (.int (if j > i then j else i)) H
def rMin2 : List V → Hp → VK → Prop := fun xs H Q => ∃ i j, xs = [.int i, .int j] ∧ Q (.int (if j < i then j else i)) H
theorem call_max2' {X : Cx} (hc : X.calm = true) : CallR X (.builtin "max") rMax2 := call_max2 hc
theorem call_min2' {X : Cx} (hc : X.calm = true) : CallR X (.builtin "min") rMin2 := call_min2 hc
theorem ev_max2 {k j : Int} (ha : EvC K C ta σ H (.d (.int k))) (hb : EvC K C tb σ H (.d (.int j))) : EvC K C (tCB rMax2 (tCons ta (tCons tb tNil))) σ H (.d (.int (max k j))) := ev_cb (ea_cons ha (ea_cons hb ea_nil)) fun H1 _ vs a Q q => by
  obtain ⟨v, w, rfl, a, b⟩ := a.two
  rw [a.int_of, b.int_of]
  refine ⟨k, j, rfl, ?_⟩
  have e : (if j > k then j else k) = max k j := by split <;> omega
  rw [e]
  exact q _ H1 (Same.refl H1) (.int _)
theorem ev_min2 {k j : Int} (ha : EvC K C ta σ H (.d (.int k))) (hb : EvC K C tb σ H (.d (.int j))) : EvC K C (tCB rMin2 (tCons ta (tCons tb tNil))) σ H (.d (.int (min k j))) := ev_cb (ea_cons ha (ea_cons hb ea_nil)) fun H1 _ vs a Q q => by
  obtain ⟨v, w, rfl, a, b⟩ := a.two
  rw [a.int_of, b.int_of]
  refine ⟨k, j, rfl, ?_⟩
  have e : (if j < k then j else k) = min k j := by split <;> omega
  rw [e]
  exact q _ H1 (Same.refl H1) (.int _)
def rInt1 : List V → Hp → VK → Prop := fun xs H Q => (∃ i, xs = [.int i] ∧ Q (.int i) H) ∨ ∃ k, xs = [.bl k] ∧ Q (.int (if k then 1 else 0)) H
theorem call_int1' {X : Cx} : CallR X (.type "int") rInt1 := call_int1
theorem ev_int1 {k : Int} (ha : EvC K C ta σ H (.d (.int k))) : EvC K C (tCB rInt1 (tCons ta tNil)) σ H (.d (.int k)) := ev_cb (ea_cons ha ea_nil) fun H1 _ vs a Q q => by
  obtain ⟨v, rfl, a1⟩ := a.one
  rw [Td.int_of a1]
  exact .inl ⟨k, rfl, q _ H1 (Same.refl H1) (.int _)⟩
def rListOf (K : PySem.W.Frag) : List V → Hp → VK → Prop := fun xs H Q => ∃ p ys, xs = [.ref p] ∧ (SqL K H p ys ∨ SqT K H p ys) ∧ ∀ l, H l = none → Q (.ref l) (upd H l (.lst ys))
theorem call_list_of' {X : Cx} : CallR X (.type "list") (rListOf X.K) := call_list_of
theorem en_cb {r : List V → Hp → VK → Prop} {ts : TA} {as : List Ag} (h : EvA K C ts σ H as) (hr : ∀ H1, Same H H1 → ∀ vs, Args K C H1 vs as → ∀ Q : VK, (∀ p H2, H1 p = none → Same H1 H2 → CtAt K C H2 (.ref p) (.l p ds) → Q (.ref p) H2) → r vs H1 Q) : EvN K C (tCB r ts) σ H ds := fun H1 e1 Q q =>
  h H1 e1 _ fun vs H2 e2 a => hr H2 (e1.trans e2) vs a Q fun p H3 hp e3 => q p H3 (e2.free hp) (e2.trans e3)
theorem new_l {p : Addr} {xs : List V} (hp : H p = none) (d : TdAll K H xs ds) : CtAt K C (upd H p (.lst xs)) (.ref p) (.l p ds) := ⟨rfl, xs, upd_same, TdAll.mono (.of (same_new hp)) _ _ d⟩
theorem en_listT (h : EvC K C te σ H (.d (.tuple ds))) : EvN K C (tCB (rListOf K) (tCons te tNil)) σ H ds := en_cb (ea_cons h ea_nil) fun H1 _ vs a Q q => by
  obtain ⟨v, rfl, a1⟩ := a.one
  obtain ⟨p, xs, rfl, s, d⟩ := Td.tup_of a1
  exact ⟨p, xs, rfl, .inr s.sq, fun l hl => q l _ hl (same_new hl) (new_l hl d)⟩
theorem en_listZ {p : Addr} (h : EvC K C te σ H (.z p ds)) : EvN K C (tCB (rListOf K) (tCons te tNil)) σ H ds := en_cb (ea_cons h ea_nil) fun H1 _ vs a Q q => by
  obtain ⟨v, rfl, rfl, xs, s, d⟩ := a.one
  exact ⟨p, xs, rfl, .inl s.sq, fun l hl => q l _ hl (same_new hl) (new_l hl d)⟩
theorem ev_tupleN (h : EvN K C te σ H ds) : EvC K C (tCB (rTupleOf K) (tCons te tNil)) σ H (.d (.tuple ds)) := ev_cb (ea_consN h ea_nil) fun H1 _ vs a Q q => by
  obtain ⟨v, rfl, p, xs, rfl, s, d⟩ := a.one
  exact ⟨p, xs, rfl, .inl ⟨SqL.of s, fun l o hl ho => q _ _ (same_new hl) (new_t hl ho d)⟩⟩
theorem ev_tupleL {p : Addr} (h : EvC K C te σ H (.l p ds)) : EvC K C (tCB (rTupleOf K) (tCons te tNil)) σ H (.d (.tuple ds)) := ev_cb (ea_consL h ea_nil) fun H1 _ vs a Q q => by
  obtain ⟨v, rfl, p, xs, rfl, s, d⟩ := a.one
  exact ⟨p, xs, rfl, .inl ⟨SqL.of s, fun l o hl ho => q _ _ (same_new hl) (new_t hl ho d)⟩⟩
theorem TdAll.bls : ∀ {bs : List Bool} {vs : List V}, TdAll K H vs (bs.map .bool) → vs = bs.map V.bl
  | [], _, h => by cases h; rfl
  | b :: bs, _, h => by
    cases h with
    | cons a r => rw [a.bl_of, TdAll.bls r]; rfl
theorem ev_allN {bs : List Bool} (h : EvN K C te σ H (bs.map .bool)) : EvC K C (tCB (rAll K) (tCons te tNil)) σ H (.d (.bool (bs.all id))) := ev_cb (ea_consN h ea_nil) fun H1 _ vs a Q q => by
  obtain ⟨v, rfl, p, xs, rfl, s, d⟩ := a.one
  rw [d.bls] at s
  exact ⟨p, bs, rfl, SqL.of s, q _ H1 (Same.refl H1) (.bl _)⟩
theorem atI_td {xs : List V} {k : Int} (a : TdAll K H xs ds) (h : atI ds k = some d) : ∃ v, atI xs k = some v ∧ Td K H v d := by
  unfold atI at h ⊢
  rw [a.length]
  cases e : ixN ds.length k with
  | none => rw [e] at h; cases h
  | some j =>
    rw [e] at h
    exact a.get h
theorem ev_ixT {k : Int} (ha : EvC K C ta σ H (.d (.tuple ds))) (hb : EvC K C tb σ H (.d (.int k))) (h : atI ds k = some d) : EvC K C (tOp (rIx K) ta tb) σ H (.d d) :=
  ev_op2 ha hb fun H1 _ x y a1 a2 Q q => by
    obtain ⟨p, xs, rfl, s, a⟩ := Td.tup_of a1
    obtain ⟨v, e, t⟩ := atI_td a h
    exact .inr (.inl ⟨p, xs, k, v, rfl, a2.int_of, s.sq, e, q v H1 (Same.refl H1) t⟩)
theorem ev_ixL {p : Addr} {k : Int} (ha : EvC K C ta σ H (.l p ds)) (hb : EvC K C tb σ H (.d (.int k))) (h : atI ds k = some d) : EvC K C (tOp (rIx K) ta tb) σ H (.d d) :=
  ev_op2 ha hb fun H1 _ x y a1 a2 Q q => by
    obtain ⟨rfl, xs, s, a⟩ := a1
    obtain ⟨v, e, t⟩ := atI_td a h
    exact .inl ⟨p, xs, k, v, rfl, a2.int_of, SqL.of s, e, q v H1 (Same.refl H1) t⟩
theorem ev_ixS {p : Addr} {k : Int} (ha : EvC K C ta σ H (.s p ds)) (hb : EvC K C tb σ H (.d (.int k))) (h : atI ds k = some d) : EvC K C (tOp (rIx K) ta tb) σ H (.d d) :=
  ev_op2 ha hb fun H1 _ x y a1 a2 Q q => by
    obtain ⟨rfl, xs, s, a⟩ := a1
    obtain ⟨v, e, t⟩ := atI_td a h
    exact .inl ⟨p, xs, k, v, rfl, a2.int_of, SqL.of s, e, q v H1 (Same.refl H1) t⟩
theorem ev_ixN {k : Int} (ha : EvN K C ta σ H ds) (hb : EvC K C tb σ H (.d (.int k))) (h : atI ds k = some d) : EvC K C (tOp (rIx K) ta tb) σ H (.d d) := fun H1 e1 Q q =>
  ha H1 e1 _ fun p H2 _ e2 a2 => hb H2 (e1.trans e2) _ fun y H3 e3 a3 => by
    obtain ⟨_, xs, s, a⟩ := CtAt.mono e3 a2
    obtain ⟨v, e, t⟩ := atI_td a h
    exact .inl ⟨p, xs, k, v, rfl, a3.int_of, SqL.of s, e, q v H3 (e2.trans e3) t⟩
theorem eo_none : EvO tNoPart σ H none := fun H1 _ _ q => q H1 (Same.refl H1)
theorem eo_some {k : Int} (h : EvC K C te σ H (.d (.int k))) : EvO (tPart te) σ H (some k) := fun H1 e _ q => h H1 e _ fun v H2 e2 a => ⟨k, a.int_of, q H2 e2⟩
def cutD {α : Type} (xs : List α) (lo hi : Option Int) : List α := (xs.drop (HT.sIx xs.length 0 lo)).take (HT.sIx xs.length xs.length hi - HT.sIx xs.length 0 lo)
theorem cut_td {xs : List V} (a : TdAll K H xs ds) (lo hi : Option Int) : TdAll K H (cutV xs lo hi) (cutD ds lo hi) := by
  unfold cutV cutD
  rw [a.length]
  exact (a.drop _).take _
def rSlU (K : PySem.W.Frag) : V → Option Int → Option Int → Hp → VK → Prop := fun x lo hi H Q => rSlL K x lo hi H Q ∨ rSlF K x lo hi H Q
theorem sl_U {X : Cx} : SlR X (rSlU X.K) := sl_list.or sl_tupF
theorem ev_slT {tl th : TO} {lo hi : Option Int} (h : EvC K C te σ H (.d (.tuple ds))) (h1 : EvO tl σ H lo) (h2 : EvO th σ H hi) : EvC K C (tSl (rSlU K) te tl th) σ H (.d (.tuple (cutD ds lo hi))) := fun H1 e Q q =>
  h H1 e _ fun v H2 e2 a => h1 H2 (e.trans e2) _ fun H3 e3 => h2 H3 ((e.trans e2).trans e3) _ fun H4 e4 => .inr (by
    obtain ⟨p, xs, rfl, s, d⟩ := Td.tup_of (CtAt.mono (e3.trans e4) a)
    refine ⟨p, xs, rfl, s.sq, fun hw => ?_, fun _ l o hl ho => q _ _ (((e2.trans e3).trans e4).trans (same_new hl)) (new_t hl ho (cut_td d lo hi))⟩
    refine q _ _ ((e2.trans e3).trans e4) ?_
    have z : cutD ds lo hi = ds := by
      unfold cutD
      rw [← d.length, hw.1, hw.2, Nat.sub_zero, List.drop_zero, d.length]
      exact List.take_length
    rw [z]
    exact .tup s d)
theorem en_slL {p : Addr} {tl th : TO} {lo hi : Option Int} (h : EvC K C te σ H (.l p ds)) (h1 : EvO tl σ H lo) (h2 : EvO th σ H hi) : EvN K C (tSl (rSlU K) te tl th) σ H (cutD ds lo hi) := fun H1 e Q q =>
  h H1 e _ fun v H2 e2 a => h1 H2 (e.trans e2) _ fun H3 e3 => h2 H3 ((e.trans e2).trans e3) _ fun H4 e4 => .inl (by
    obtain ⟨rfl, xs, s, d⟩ := CtAt.mono (e3.trans e4) a
    exact ⟨p, xs, rfl, SqL.of s, fun l hl => q l _ (((e2.trans e3).trans e4).free hl) (((e2.trans e3).trans e4).trans (same_new hl)) (new_l hl (cut_td d lo hi))⟩)
theorem en_addN (ha : EvN K C ta σ H ds) (hb : EvN K C tb σ H es) (hl : ds.length + es.length ≤ 10000000) : EvN K C (tOp (rAddU K) ta tb) σ H (ds ++ es) := fun H1 e1 Q q =>
  ha H1 e1 _ fun p H2 _ e2 a2 => hb H2 (e1.trans e2) _ fun p' H3 _ e3 a3 => .inr (.inr (by
    obtain ⟨_, xs, s1, d1⟩ := CtAt.mono e3 a2
    obtain ⟨_, ys, s2, d2⟩ := a3
    have l1 := d1.length
    have l2 := d2.length
    exact ⟨p, p', xs, ys, rfl, rfl, s1, s2, Nat.le_trans (by omega) (show 10000000 ≤ sizeLine by decide), fun l hl => q l _ ((e2.trans e3).free hl) ((e2.trans e3).trans (same_new hl)) (new_l hl (d1.append d2))⟩))
theorem en_addL {p : Addr} (ha : EvC K C ta σ H (.l p ds)) (hb : EvN K C tb σ H es) (hl : ds.length + es.length ≤ 10000000) : EvN K C (tOp (rAddU K) ta tb) σ H (ds ++ es) := fun H1 e1 Q q =>
  ha H1 e1 _ fun v H2 e2 a2 => hb H2 (e1.trans e2) _ fun p' H3 _ e3 a3 => .inr (.inr (by
    obtain ⟨rfl, xs, s1, d1⟩ := CtAt.mono e3 a2
    obtain ⟨_, ys, s2, d2⟩ := a3
    have l1 := d1.length
    have l2 := d2.length
    exact ⟨p, p', xs, ys, rfl, rfl, s1, s2, Nat.le_trans (by omega) (show 10000000 ≤ sizeLine by decide), fun l hl => q l _ ((e2.trans e3).free hl) ((e2.trans e3).trans (same_new hl)) (new_l hl (d1.append d2))⟩))
end
def spC (K : PySem.W.Frag) (C : Addr) (A : List Ag → PyData → Prop) : Sp := fun vs H Q _ => ∃ as d, Args K C H vs as ∧ A as d ∧ ∀ v H', Same H H' → Td K H' v d → Q v H'
def spN (K : PySem.W.Frag) (C : Addr) (A : List Ag → List PyData → Prop) : Sp := fun vs H Q _ => ∃ as ds, Args K C H vs as ∧ A as ds ∧ ∀ p H', H p = none → Same H H' → CtAt K C H' (.ref p) (.l p ds) → Q (.ref p) H'
section
variable {G : List (V × PyData)} {S : List Addr} {H0 : Hp} {σ : L2.St} {Γ : List Ct} {i j : Nat} {c : Ct} {te ta tb tc tl : TE} {t u : TT}
theorem ev_call {A : List Ag → PyData → Prop} {as : List Ag} {E : XK} {ts : TA} (h : EvA K C ts σ H as) (hA : A as d) : EvC K C (tCall (spC K C A) [] E ts) σ H (.d d) := fun H1 e1 Q q =>
  h H1 e1 _ fun vs H2 e2 a => ⟨as, d, by rw [List.append_nil]; exact a, hA, fun v H3 e3 t => q v H3 (e2.trans e3) t⟩
theorem en_call {A : List Ag → List PyData → Prop} {as : List Ag} {E : XK} {ts : TA} (h : EvA K C ts σ H as) (hA : A as ds) : EvN K C (tCall (spN K C A) [] E ts) σ H ds := fun H1 e1 Q q =>
  h H1 e1 _ fun vs H2 e2 a => ⟨as, ds, by rw [List.append_nil]; exact a, hA, fun p H3 hp e3 t => q p H3 (e2.free hp) (e2.trans e3) t⟩
def ArgsC (K : PySem.W.Frag) (C : Addr) (H : Hp) : List V → List Ct → Prop
  | [], [] => True
  | v :: vs, c :: cs => CtAt K C H v c ∧ ArgsC K C H vs cs
  | _, _ => False
theorem ArgsC.get : ∀ {vs : List V} {cs : List Ct} {i : Nat} {c : Ct}, ArgsC K C H vs cs → cs[i]? = some c → ∃ v, vs[i]? = some v ∧ CtAt K C H v c
  | [], [], _, _, _, e => by simp at e
  | v :: vs, c :: cs, 0, _, ⟨a, _⟩, e => by simp at e; subst e; exact ⟨v, rfl, a⟩
  | v :: vs, c :: cs, i + 1, _, ⟨_, b⟩, e => by
    obtain ⟨w, h1, h2⟩ := ArgsC.get b (show cs[i]? = _ by simpa using e)
    exact ⟨w, by simpa using h1, h2⟩
  | [], _ :: _, _, _, h, _ => h.elim
  | _ :: _, [], _, _, h, _ => h.elim
theorem ArgsC.length : ∀ {vs : List V} {cs : List Ct}, ArgsC K C H vs cs → vs.length = cs.length
  | [], [], _ => rfl
  | _ :: _, _ :: _, ⟨_, b⟩ => congrArg (· + 1) (ArgsC.length b)
  | [], _ :: _, h => h.elim
  | _ :: _, [], h => h.elim
theorem Wd.start0 {vs : List V} {cs : List Ct} {N : List Str} {S : List Addr} (h : ArgsC K C H vs cs) (hS : LT S H) (ho : ∀ c ∈ cs, c.own = true → ∀ a ∈ c.adr, a ∈ S)
    (hd : ∀ (i j : Nat) (c c' : Ct) (a : Addr), cs[i]? = some c → cs[j]? = some c' → a ∈ c.adr → a ∈ c'.adr → i = j ∨ (c.own = false ∧ c'.own = false)) (hl : vs.length ≤ N.length) :
    Wd K C S [] H H (L2.start N vs) (cs ++ List.replicate (N.length - vs.length) .u) := by
  have len := h.length
  have old : ∀ {i : Nat} {c : Ct}, (cs ++ List.replicate (N.length - vs.length) Ct.u)[i]? = some c → cs[i]? = some c ∨ c = .u := fun {i c} e => by
    by_cases hi : i < cs.length
    · rw [List.getElem?_append_left hi] at e; exact .inl e
    · rw [List.getElem?_append_right (by omega), List.getElem?_replicate] at e
      split at e
      · cases e; exact .inr rfl
      · cases e
  refine ⟨fun _ _ h _ => h, hS, ?_, fun i c e => ?_, fun i c e o a m => ?_, fun i j c c' a e e' m m' => ?_, fun p m => by simp at m⟩
  · unfold L2.start
    rw [List.length_append, List.length_append, List.length_map, List.length_replicate, List.length_replicate, len]
  · rcases old e with e | e
    · obtain ⟨v, h1, h2⟩ := h.get e
      refine .mk (v := v) ?_ h2
      unfold L2.start
      have hi := (List.getElem?_eq_some_iff.mp h1).1
      rw [List.getElem?_append_left (by simpa using hi), List.getElem?_map, h1]
      rfl
    · subst e; exact True.intro
  · rcases old e with e | e
    · exact .inl (ho c (List.mem_of_getElem? e) o a m)
    · subst e; cases o
  · rcases old e with e | e
    · rcases old e' with e' | e'
      · exact hd i j c c' a e e' m m'
      · subst e'; simp [Ct.adr] at m'
    · subst e; simp [Ct.adr] at m
theorem Wd.start {vs : List V} {cs : List Ct} {N : List Str} (h : ArgsC K C H vs cs) (ho : cs.all (fun c => !c.own) = true := by rfl) (hl : vs.length ≤ N.length := by decide) :
    Wd K C [] [] H H (L2.start N vs) (cs ++ List.replicate (N.length - vs.length) .u) := by
  have no : ∀ c ∈ cs, c.own = false := fun c m => by
    have := List.all_eq_true.mp ho c m
    simpa using this
  exact Wd.start0 h LT.nil (fun c m o => by rw [no c m] at o; cases o) (fun i j c c' a e e' _ _ => .inr ⟨no c (List.mem_of_getElem? e), no c' (List.mem_of_getElem? e')⟩) hl
theorem Wd.startH {v : V} {p q : Addr} {vs : List V} {cs : List Ct} {N : List Str} (h : ArgsC K C H (v :: vs) (.h p q :: cs)) (ho : cs.all (fun c => c.adr.isEmpty) = true := by rfl) (hl : (v :: vs).length ≤ N.length := by decide) :
    Wd K C [p, q] [] H H (L2.start N (v :: vs)) ((.h p q :: cs) ++ List.replicate (N.length - (v :: vs).length) .u) := by
  have no : ∀ c ∈ cs, c.adr = [] := fun c m => by
    have := List.all_eq_true.mp ho c m
    simpa using this
  obtain ⟨⟨_, _, s, k, cl, h1, h2, _⟩, _⟩ := id h
  refine Wd.start0 h (fun a m => ?_) (fun c m o a ma => ?_) (fun i j c c' a e e' m m' => ?_) hl
  · have e : a = p ∨ a = q := by simpa using m
    rcases e with e | e
    · subst e; exact ⟨_, h1, True.intro⟩
    · subst e; exact ⟨_, h2, True.intro⟩
  · rcases List.mem_cons.mp m with z | z
    · subst z; simpa [Ct.adr] using ma
    · rw [no c z] at ma; simp at ma
  · cases i with
    | zero =>
      cases j with
      | zero => exact .inl rfl
      | succ j => rw [no c' (List.mem_of_getElem? (show cs[j]? = some c' by simpa using e'))] at m'; simp at m'
    | succ i => rw [no c (List.mem_of_getElem? (show cs[i]? = some c by simpa using e))] at m; simp at m
variable {D : Ends} {tu tw : TS}
theorem s_seq (h : tu { D with nx := tw D } σ H) : tSeq tu tw D σ H := h
theorem s_next (h : D.nx σ H) : tNext D σ H := h
theorem s_asg (w : Wd K C S G H0 H σ Γ) (h : EvC K C te σ H c) (k : ∀ v σ1 H1, CtAt K C H1 v c → Wd K C S G H0 H1 σ1 (Γ.set i c) → D.nx σ1 H1) (ha : c.adr = [] := by rfl) : tAsg te (gName i) D σ H :=
  h H (Same.refl H) _ fun v H1 e a => k v _ H1 a ((w.mono e).set i a ha)
theorem s_asgN (w : Wd K C S G H0 H σ Γ) (h : EvN K C te σ H ds) (k : ∀ p σ1 H1, H0 p = none → Wd K C S G H0 H1 σ1 (Γ.set i (.l p ds)) → D.nx σ1 H1) : tAsg te (gName i) D σ H :=
  h H (Same.refl H) _ fun p H1 hp e a => k p _ H1 (w.fresh0 hp) (w.setN i e hp a)
theorem s_if (w : Wd K C S G H0 H σ Γ) {b : Bool} (h : EvT t σ H b) (h1 : b = true → ∀ H1, Wd K C S G H0 H1 σ Γ → tu D σ H1) (h2 : b = false → ∀ H1, Wd K C S G H0 H1 σ Γ → tw D σ H1) : tIfS t tu tw D σ H := h H (Same.refl H) _ fun H1 e => by
  cases b with
  | true => exact h1 rfl H1 (w.mono e)
  | false => exact h2 rfl H1 (w.mono e)
theorem s_ret (w : Wd K C S G H0 H σ Γ) (h : EvC K C te σ H c) (k : ∀ v H1, Wd K C S G H0 H1 σ Γ → CtAt K C H1 v c → D.rt v H1) : tRet te D σ H := h H (Same.refl H) _ fun v H1 e a => k v H1 (w.mono e) a
theorem s_retN (w : Wd K C S G H0 H σ Γ) (h : EvN K C te σ H ds) (k : ∀ p H1, H0 p = none → Wd K C S G H0 H1 σ Γ → CtAt K C H1 (.ref p) (.l p ds) → D.rt (.ref p) H1) : tRet te D σ H := h H (Same.refl H) _ fun p H1 hp e a => k p H1 (w.fresh0 hp) (w.mono e) a
theorem s_drop (w : Wd K C S G H0 H σ Γ) (h : EvC K C te σ H c) (k : ∀ H1, Wd K C S G H0 H1 σ Γ → D.nx σ H1) : tDrop te D σ H := h H (Same.refl H) _ fun v H1 e a => k H1 (w.mono e)
theorem s_app (w : Wd K C S G H0 H σ Γ) {p : Addr} (hi : Γ[i]? = some (.l p ds)) (h : EvC K C te σ H (.d d)) (hz : ds.length < 10000000) (k : ∀ H1, Wd K C S G H0 H1 σ (Γ.set i (.l p (ds ++ [d]))) → D.nx σ H1) :
    tDrop (tBM K "list" rAppend (tVar i) (tCons te tNil)) D σ H := by
  obtain ⟨v, e1, rfl, xs, e2, e3⟩ := w.get hi
  refine ⟨.ref p, e1, .inl ⟨rfl, xs, SqL.of e2⟩, ?_⟩
  refine h H (Same.refl H) _ fun y H1 e a => ?_
  refine ⟨p, xs, y, rfl, rfl, e _ _ e2, Nat.lt_of_lt_of_le (by rw [e3.length]; exact hz) (show 10000000 ≤ sizeLine by decide), ?_⟩
  exact k _ ((w.mono e).chg hi ((TdAll.mono (.of e) _ _ e3).append (.cons a .nil)))
theorem s_forR1 (w : Wd K C S G H0 H σ Γ) {n : Int} {ts : TA} (h : EvA K C ts σ H [.c (.d (.int n))]) (hn : n ≤ 10000000 ∧ -10000000 ≤ n) (Pv : Nat → L2.St → Hp → Prop) (h0 : ∀ H1, Wd K C S G H0 H1 σ Γ → Pv 0 σ H1)
    (hs : ∀ (k : Nat) σ' H', (k : Int) < n → Pv k σ' H' → tu { D with nx := Pv (k + 1), ct := Pv (k + 1), bk := D.nx } (σ'.set j (some (.int (k : Int)))) H') (hd : ∀ σ' H', Pv n.toNat σ' H' → D.nx σ' H') : tFor (iRng1 ts) (gName j) tu D σ H :=
  h H (Same.refl H) _ fun vs H1 e a => by
    obtain ⟨v, rfl, a1⟩ := a.one
    rw [Td.int_of a1]
    refine ⟨n, rfl, by omega, by omega, for_range (lo := 0) (n := n.toNat) Pv (h0 H1 (w.mono e)) (fun k σ' H' hk p => ?_) hd⟩
    show tu { D with nx := Pv (k + 1), ct := Pv (k + 1), bk := D.nx } (σ'.set j (some (.int ((0 : Int) + (k : Int))))) H'
    rw [Int.zero_add]
    exact hs k σ' H' (by omega) p
theorem s_forR2 (w : Wd K C S G H0 H σ Γ) {lo n : Int} {ts : TA} (h : EvA K C ts σ H [.c (.d (.int lo)), .c (.d (.int n))]) (hn : n ≤ 10000000 ∧ -10000000 ≤ n ∧ -10000000 ≤ lo ∧ lo ≤ 10000000) (Pv : Nat → L2.St → Hp → Prop) (h0 : ∀ H1, Wd K C S G H0 H1 σ Γ → Pv 0 σ H1)
    (hs : ∀ (k : Nat) σ' H', lo + (k : Int) < n → Pv k σ' H' → tu { D with nx := Pv (k + 1), ct := Pv (k + 1), bk := D.nx } (σ'.set j (some (.int (lo + (k : Int))))) H') (hd : ∀ σ' H', Pv (n - lo).toNat σ' H' → D.nx σ' H') : tFor (iRng2 ts) (gName j) tu D σ H :=
  h H (Same.refl H) _ fun vs H1 e a => by
    obtain ⟨v, v2, rfl, a, b⟩ := a.two
    rw [Td.int_of a, Td.int_of b]
    exact ⟨lo, n, rfl, ⟨by omega, by omega, by omega, by omega⟩, for_range (lo := lo) (n := (n - lo).toNat) Pv (h0 H1 (w.mono e)) (fun k σ' H' hk p => hs k σ' H' (by omega) p) hd⟩
theorem s_forR3 (w : Wd K C S G H0 H σ Γ) {lo n : Int} {ts : TA} (h : EvA K C ts σ H [.c (.d (.int lo)), .c (.d (.int n)), .c (.d (.int (-1)))]) (hn : n ≤ 10000000 ∧ -10000000 ≤ n ∧ -10000000 ≤ lo ∧ lo ≤ 10000000) (Pv : Nat → L2.St → Hp → Prop) (h0 : ∀ H1, Wd K C S G H0 H1 σ Γ → Pv 0 σ H1)
    (hs : ∀ (k : Nat) σ' H', n < lo - (k : Int) → Pv k σ' H' → tu { D with nx := Pv (k + 1), ct := Pv (k + 1), bk := D.nx } (σ'.set j (some (.int (lo - (k : Int))))) H') (hd : ∀ σ' H', Pv (lo - n).toNat σ' H' → D.nx σ' H') : tFor (iRng3 ts) (gName j) tu D σ H :=
  h H (Same.refl H) _ fun vs H1 e a => by
    obtain ⟨v, v2, v3, rfl, a, b, c⟩ := a.three
    rw [Td.int_of a, Td.int_of b, Td.int_of c]
    refine ⟨lo, n, -1, (lo - n).toNat, rfl, RgC.neg (by omega) (by omega) (by omega) (by omega), for_rangeC (lo := lo) (c := -1) (n := (lo - n).toNat) Pv (h0 H1 (w.mono e)) (fun k σ' H' hk p => ?_) hd⟩
    show tu { D with nx := Pv (k + 1), ct := Pv (k + 1), bk := D.nx } (σ'.set j (some (.int (lo + (k : Int) * (-1))))) H'
    rw [show lo + (k : Int) * (-1) = lo - (k : Int) by omega]
    exact hs k σ' H' (by omega) p
theorem Wd.ghost (w : Wd K C S G H0 H σ Γ) (h : Td K H v d) : Wd K C S ((v, d) :: G) H0 H σ Γ := ⟨w.fr, w.sl, w.len, w.at_, w.wr, w.dj, fun p m => by
  rcases List.mem_cons.mp m with z | z
  · subst z; exact h
  · exact w.gh p z⟩
theorem Wd.unghost (w : Wd K C S ((v, d) :: G) H0 H σ Γ) : Wd K C S G H0 H σ Γ := ⟨w.fr, w.sl, w.len, w.at_, w.wr, w.dj, fun p m => w.gh p (List.mem_cons_of_mem _ m)⟩
theorem Wd.gh0 (w : Wd K C S ((v, d) :: G) H0 H σ Γ) : Td K H v d := w.gh _ List.mem_cons_self
def Turns (J : It) (g : TG) (tu : TS) (D : Ends) (σ : L2.St) (H : Hp) : Prop := ∃ W : Nat → Nat → L2.St → Hp → Prop, (∃ m, W 0 m σ H) ∧ ∀ i m σ H, W i m σ H →
  (J.stop i H ∧ D.nx σ H) ∨ (J.go i H ∧ ∃ N : L2.St → Hp → Prop, (∀ σ' H', N σ' H' → ∃ m', m' < m ∧ W (i + 1) m' σ' H') ∧ ∀ x H', J.yld i H x H' → g x σ H' fun σ2 H2 => tu { D with nx := N, ct := N, bk := D.nx } σ2 H2)
def Nth (K : PySem.W.Frag) (ds : List PyData) : Nat → Hp → V → Hp → Prop := fun i H v H' => H' = H ∧ ∃ d, ds[i]? = some d ∧ Td K H v d
theorem told_T {a : Addr} : Walk (Itt K a) ds.length (fun H => Td K H (.ref a) (.tuple ds)) (Nth K ds) := by
  have see : ∀ {H}, Td K H (.ref a) (.tuple ds) → ∃ xs, SqT K H a xs ∧ TdAll K H xs ds := fun t => by
    obtain ⟨_, xs, e, s, all⟩ := Td.tup_of t
    cases e
    exact ⟨xs, s.sq, all⟩
  refine ⟨fun i H lt t => ?_, fun H t => ?_, fun i H v H' _ t y => ?_⟩ <;> obtain ⟨xs, s, all⟩ := see t
  · exact ⟨xs, xs[i]'(by rw [all.length]; exact lt), s, List.getElem?_eq_getElem _⟩
  · exact ⟨xs, s, Nat.le_of_eq all.length⟩
  · exact ⟨y.1, all.get' (y.2 xs s)⟩
theorem told_L {a : Addr} : Walk (Itl K a) ds.length (fun H => ∃ xs, SqL K H a xs ∧ TdAll K H xs ds) (Nth K ds) :=
  ⟨fun i _ lt ⟨xs, s, all⟩ => ⟨xs, xs[i]'(by rw [all.length]; exact lt), s, List.getElem?_eq_getElem _⟩, fun _ ⟨xs, s, all⟩ => ⟨xs, s, Nat.le_of_eq all.length⟩, fun _ _ _ _ _ ⟨xs, s, all⟩ y => ⟨y.1, all.get' (y.2 xs s)⟩⟩
theorem turns_nth {J : It} {G : Hp → Prop} {g : TG} {D : Ends} (w : Walk J ds.length G (Nth K ds)) (Pv : Nat → L2.St → Hp → Prop) (h0 : Pv 0 σ H) (hw : ∀ k σ' H', Pv k σ' H' → G H')
    (hs : ∀ k d v σ' H', ds[k]? = some d → Td K H' v d → Pv k σ' H' → g v σ' H' fun σ2 H2 => tu { D with nx := Pv (k + 1), ct := Pv (k + 1), bk := D.nx } σ2 H2) (hd : ∀ σ' H', Pv ds.length σ' H' → D.nx σ' H') : Turns J g tu D σ H :=
  for_it w Pv h0 (fun k σ' H' _ p => hw k σ' H' p) (fun k v σ' H1 H' _ p ⟨e, d, at_, t⟩ => by subst e; exact hs k d v σ' _ at_ t p) hd
theorem walkT {a : Addr} {g : TG} {D : Ends} (hds : ∃ n, n = ds.length) (Pv : Nat → L2.St → Hp → Prop) (h0 : Pv 0 σ H) (hw : ∀ k σ' H', Pv k σ' H' → Td K H' (.ref a) (.tuple ds))
    (hs : ∀ k d v σ' H', ds[k]? = some d → Td K H' v d → Pv k σ' H' → g v σ' H' fun σ2 H2 => tu { D with nx := Pv (k + 1), ct := Pv (k + 1), bk := D.nx } σ2 H2) (hd : ∀ σ' H', Pv ds.length σ' H' → D.nx σ' H') : Turns (Itt K a) g tu D σ H := turns_nth told_T Pv h0 hw hs hd
theorem s_forT {g : TG} (w : Wd K C S G H0 H σ Γ) (h : EvC K C tl σ H (.d (.tuple ds))) (Pv : Addr → Nat → L2.St → Hp → Prop) (h0 : ∀ a H1, Wd K C S ((.ref a, .tuple ds) :: G) H0 H1 σ Γ → Pv a 0 σ H1)
    (hw : ∀ a k σ' H', Pv a k σ' H' → Td K H' (.ref a) (.tuple ds))
    (hs : ∀ a k d v σ' H', ds[k]? = some d → Td K H' v d → Pv a k σ' H' → g v σ' H' fun σ2 H2 => tu { D with nx := Pv a (k + 1), ct := Pv a (k + 1), bk := D.nx } σ2 H2) (hd : ∀ a σ' H', Pv a ds.length σ' H' → D.nx σ' H') : tFor (iTup K tl) g tu D σ H :=
  h H (Same.refl H) _ fun v H1 e a => by
    obtain ⟨p, xs, rfl, s, t⟩ := Td.tup_of a
    exact ⟨p, rfl, ⟨xs, s.sq⟩, walkT ⟨_, rfl⟩ (Pv p) (h0 p H1 ((w.mono e).ghost a)) (hw p) (hs p) (hd p)⟩
theorem walkL {a : Addr} {g : TG} {D : Ends} (Pv : Nat → L2.St → Hp → Prop) (h0 : Pv 0 σ H) (hw : ∀ k σ' H', Pv k σ' H' → ∃ xs, H' a = some (.lst xs) ∧ TdAll K H' xs ds)
    (hs : ∀ k d v σ' H', ds[k]? = some d → Td K H' v d → Pv k σ' H' → g v σ' H' fun σ2 H2 => tu { D with nx := Pv (k + 1), ct := Pv (k + 1), bk := D.nx } σ2 H2) (hd : ∀ σ' H', Pv ds.length σ' H' → D.nx σ' H') : Turns (Itl K a) g tu D σ H := turns_nth told_L Pv h0 (fun k σ' H' p => let ⟨xs, s, t⟩ := hw k σ' H' p; ⟨xs, SqL.of s, t⟩) hs hd
theorem s_forL {g : TG} {p : Addr} (w : Wd K C S G H0 H σ Γ) (h : EvC K C tl σ H (.l p ds)) (Pv : Nat → L2.St → Hp → Prop) (h0 : ∀ H1, Wd K C S G H0 H1 σ Γ → Pv 0 σ H1)
    (hw : ∀ k σ' H', Pv k σ' H' → ∃ xs, H' p = some (.lst xs) ∧ TdAll K H' xs ds)
    (hs : ∀ k d v σ' H', ds[k]? = some d → Td K H' v d → Pv k σ' H' → g v σ' H' fun σ2 H2 => tu { D with nx := Pv (k + 1), ct := Pv (k + 1), bk := D.nx } σ2 H2) (hd : ∀ σ' H', Pv ds.length σ' H' → D.nx σ' H') : tFor (iList K tl) g tu D σ H :=
  h H (Same.refl H) _ fun v H1 e a => by
    obtain ⟨rfl, xs, s, t⟩ := a
    exact ⟨p, rfl, ⟨xs, SqL.of s⟩, walkL Pv (h0 H1 (w.mono e)) hw hs hd⟩
theorem wipe1 (σ : L2.St) (j : Nat) (x : Option V) : wipe ((wipe σ [j]).set j x) [j] = wipe σ [j] := by
  simp [wipe, List.set_set]
theorem Wd.wiped (w : Wd K C S G H0 H σ Γ) (j : Nat) : Wd K C S G H0 H (wipe σ [j]) (Γ.set j .u) := by
  have w1 := w.drop j
  unfold wipe wipe
  refine ⟨w1.fr, w1.sl, by rw [List.length_set]; exact w1.len, fun i c hi => ?_, w1.wr, w1.dj, w1.gh⟩
  by_cases e : i = j
  · subst e
    rcases set_cases hi with ⟨_, rfl, _⟩ | ⟨ne, _⟩
    · exact True.intro
    · exact absurd rfl ne
  · rw [List.getElem?_set_ne (Ne.symm e)]
    exact w1.at_ i c hi
def Cw (K : PySem.W.Frag) (H : Hp) (Dl : Addr) (es : List PyData) (H' : Hp) : Prop := H Dl = none ∧ Same H H' ∧ ∃ acc, H' Dl = some (.lst acc) ∧ TdAll K H' acc es
theorem Cw.start {Dl : Addr} (h : H Dl = none) : Cw K H Dl [] (upd H Dl (.lst [])) := ⟨h, same_new h, [], upd_same, .nil⟩
theorem cw_turn {Dl : Addr} {σ2 : L2.St} {b : Bool} (p : Cw K H Dl es H') (hl : es.length < 10000000) (ht : EvT t σ2 H b) (he : b = true → EvC K C te σ2 H (.d d)) :
    t σ2 H' fun b' H3 => if b' = true then te σ2 H3 fun y H4 => ∃ acc, H4 Dl = some (.lst acc) ∧ acc.length < sizeLine ∧ Cw K H Dl (if b = true then es ++ [d] else es) (upd H4 Dl (.lst (acc ++ [y]))) else Cw K H Dl (if b = true then es ++ [d] else es) H3 := by
  obtain ⟨p1, p2, acc, p3, p4⟩ := p
  refine ht H' p2 _ fun H3 e3 => ?_
  cases b with
  | true =>
    show te σ2 H3 fun y H4 => ∃ acc, H4 Dl = some (.lst acc) ∧ acc.length < sizeLine ∧ Cw K H Dl (es ++ [d]) (upd H4 Dl (.lst (acc ++ [y])))
    refine he rfl H3 (p2.trans e3) _ fun y H4 e4 a4 => ?_
    have s4 := e3.trans e4
    have q := s4 _ _ p3
    refine ⟨acc, q, Nat.lt_of_lt_of_le (by rw [p4.length]; exact hl) (show 10000000 ≤ sizeLine by decide), p1, fun a o ha => ?_, acc ++ [y], upd_same, ?_⟩
    · rw [upd_ne (ne_of_none ha p1)]
      exact s4 _ _ (p2 _ _ ha)
    · exact TdAll.mono (.fr (LT.one q) Fr.upd) _ _ ((TdAll.mono (.of s4) _ _ p4).append (.cons a4 .nil))
  | false =>
    exact ⟨p1, p2.trans e3, acc, e3 _ _ p3, TdAll.mono (.of e3) _ _ p4⟩
def kept {α : Type} (f : α → Bool) (g : α → PyData) (l : List α) : List PyData := (l.filter f).map g
theorem kept_step {α : Type} {f : α → Bool} {g : α → PyData} {l : List α} {k : Nat} {x : α} (h : l[k]? = some x) : kept f g (l.take (k + 1)) = if f x = true then kept f g (l.take k) ++ [g x] else kept f g (l.take k) := by
  unfold kept
  rw [List.take_add_one, h]
  show List.map g (List.filter f (l.take k ++ [x])) = _
  rw [List.filter_append, List.map_append]
  cases e : f x with
  | true => simp [e]
  | false => simp [e]
theorem kept_len {α : Type} {f : α → Bool} {g : α → PyData} {l : List α} {k : Nat} : (kept f g (l.take k)).length ≤ l.length := by
  unfold kept
  rw [List.length_map]
  exact Nat.le_trans (List.length_filter_le _ _) (by rw [List.length_take]; exact Nat.min_le_right _ _)
theorem en_lcT {α : Type} {l : List α} {mk : α → PyData} (w : Wd K C S G H0 H σ Γ) (hl : EvC K C tl σ H (.d (.tuple (l.map mk)))) (f : α → Bool) (g : α → PyData) (hz : l.length < 10000000)
    (ht : ∀ x ∈ l, ∀ σ1 H1, Wd K C S G H0 H1 σ1 ((Γ.set j .u).set j (.d (mk x))) → EvT t σ1 H1 (f x)) (he : ∀ x ∈ l, ∀ σ1 H1, Wd K C S G H0 H1 σ1 ((Γ.set j .u).set j (.d (mk x))) → f x = true → EvC K C te σ1 H1 (.d (g x))) :
    EvN K C (tLc (iTup K tl) (gName j) t te [j]) σ H (kept f g l) := fun H1 e1 Q q => hl H1 e1 _ fun v H2 e2 a => by
  obtain ⟨p, xs, rfl, s, td⟩ := Td.tup_of a
  have len : xs.length = l.length := by rw [td.length, List.length_map]
  refine ⟨p, rfl, ⟨xs, s.sq⟩, fun Dl hD => lc_tup (xs := xs) (fun k H' => Cw K H2 Dl (kept f g (l.take k)) H') (by rw [List.take_zero]; exact Cw.start hD) (fun k H' _ c => ((Tx.of c.2.1).sqF s).sq) (fun k x H' hk c => ?_) (fun H' c => ?_)⟩
  · have hk' : k < l.length := by rw [← len]; exact (List.getElem?_eq_some_iff.mp hk).1
    have ek : l[k]? = some l[k] := List.getElem?_eq_getElem hk'
    obtain ⟨d, h1, h2⟩ := td.get' hk
    have ed : d = mk l[k] := by rw [List.getElem?_map, ek] at h1; exact (Option.some.inj h1).symm
    subst ed
    have w2 : Wd K C S G H0 H2 ((wipe σ [j]).set j (some x)) ((Γ.set j .u).set j (.d (mk l[k]))) := ((w.mono (e1.trans e2)).wiped j).set j h2
    have m : l[k] ∈ l := List.getElem_mem hk'
    show wipe ((wipe σ [j]).set j (some x)) [j] = wipe σ [j] ∧ _
    refine ⟨wipe1 σ j _, ?_⟩
    have z := cw_turn (C := C) (te := te) (d := g l[k]) c (Nat.lt_of_le_of_lt kept_len hz) (ht _ m _ _ w2) (he _ m _ _ w2)
    rw [← kept_step ek] at z
    exact z
  · rw [len, List.take_length] at c
    obtain ⟨c1, c2, acc, c3, c4⟩ := c
    exact q Dl H' (e2.free c1) (e2.trans c2) ⟨rfl, acc, c3, c4⟩
theorem en_lcS {α : Type} {l : List α} {mk : α → PyData} {p : Addr} (w : Wd K C S G H0 H σ Γ) (hl : EvC K C tl σ H (.s p (l.map mk))) (f : α → Bool) (g : α → PyData) (hz : l.length < 10000000)
    (ht : ∀ x ∈ l, ∀ σ1 H1, Wd K C S G H0 H1 σ1 ((Γ.set j .u).set j (.d (mk x))) → EvT t σ1 H1 (f x)) (he : ∀ x ∈ l, ∀ σ1 H1, Wd K C S G H0 H1 σ1 ((Γ.set j .u).set j (.d (mk x))) → f x = true → EvC K C te σ1 H1 (.d (g x))) :
    EvN K C (tLc (iList K tl) (gName j) t te [j]) σ H (kept f g l) := fun H1 e1 Q q => hl H1 e1 _ fun v H2 e2 a => by
  obtain ⟨rfl, xs, s, td⟩ := a
  have len : xs.length = l.length := by rw [td.length, List.length_map]
  refine ⟨p, rfl, ⟨xs, SqL.of s⟩, fun Dl hD => lc_list (xs := xs) (fun k H' => Cw K H2 Dl (kept f g (l.take k)) H') (by rw [List.take_zero]; exact Cw.start hD) (fun k H' _ c => SqL.of (c.2.1 _ _ s)) (fun k x H' hk c => ?_) (fun H' c => ?_)⟩
  · have hk' : k < l.length := by rw [← len]; exact (List.getElem?_eq_some_iff.mp hk).1
    have ek : l[k]? = some l[k] := List.getElem?_eq_getElem hk'
    obtain ⟨d, h1, h2⟩ := td.get' hk
    have ed : d = mk l[k] := by rw [List.getElem?_map, ek] at h1; exact (Option.some.inj h1).symm
    subst ed
    have w2 : Wd K C S G H0 H2 ((wipe σ [j]).set j (some x)) ((Γ.set j .u).set j (.d (mk l[k]))) := ((w.mono (e1.trans e2)).wiped j).set j h2
    have m : l[k] ∈ l := List.getElem_mem hk'
    show wipe ((wipe σ [j]).set j (some x)) [j] = wipe σ [j] ∧ _
    refine ⟨wipe1 σ j _, ?_⟩
    have z := cw_turn (C := C) (te := te) (d := g l[k]) c (Nat.lt_of_le_of_lt kept_len hz) (ht _ m _ _ w2) (he _ m _ _ w2)
    rw [← kept_step ek] at z
    exact z
  · rw [len, List.take_length] at c
    obtain ⟨c1, c2, acc, c3, c4⟩ := c
    exact q Dl H' (e2.free c1) (e2.trans c2) ⟨rfl, acc, c3, c4⟩
theorem ev_lend {p : Addr} (h : EvC K C te σ H (.l p ds)) : EvC K C te σ H (.s p ds) := h
theorem en_lcR {ts : TA} {n : Int} (w : Wd K C S G H0 H σ Γ) (hl : EvA K C ts σ H [.c (.d (.int n))]) (f : Nat → Bool) (g : Nat → PyData) (hz : n < 10000000 ∧ -10000000 < n)
    (ht : ∀ x : Nat, (x : Int) < n → ∀ σ1 H1, Wd K C S G H0 H1 σ1 ((Γ.set j .u).set j (.d (.int x))) → EvT t σ1 H1 (f x)) (he : ∀ x : Nat, (x : Int) < n → ∀ σ1 H1, Wd K C S G H0 H1 σ1 ((Γ.set j .u).set j (.d (.int x))) → f x = true → EvC K C te σ1 H1 (.d (g x))) :
    EvN K C (tLc (iRng1 ts) (gName j) t te [j]) σ H (kept f g (List.range n.toNat)) := fun H1 e1 Q q => hl H1 e1 _ fun vs H2 e2 a => by
  obtain ⟨v, rfl, a1⟩ := a.one
  rw [Td.int_of a1]
  refine ⟨n, rfl, by omega, by omega, fun Dl hD => lc_range (lo := 0) (n := n.toNat) (fun k H' => Cw K H2 Dl (kept f g ((List.range n.toNat).take k)) H') (by rw [List.take_zero]; exact Cw.start hD) (fun k H' hk c => ?_) (fun H' c => ?_)⟩
  · have ek : (List.range n.toNat)[k]? = some k := by
      rw [List.getElem?_range hk]
    have w2 : Wd K C S G H0 H2 ((wipe σ [j]).set j (some (.int (0 + (k : Int))))) ((Γ.set j .u).set j (.d (.int k))) := ((w.mono (e1.trans e2)).wiped j).set j (by rw [Int.zero_add]; exact .int _)
    show wipe ((wipe σ [j]).set j (some (.int (0 + (k : Int))))) [j] = wipe σ [j] ∧ _
    refine ⟨wipe1 σ j _, ?_⟩
    have z := cw_turn (C := C) (te := te) (d := g k) c (Nat.lt_of_le_of_lt kept_len (by rw [List.length_range]; omega)) (ht k (by omega) _ _ w2) (he k (by omega) _ _ w2)
    rw [← kept_step ek] at z
    exact z
  · rw [List.take_of_length_le (show (List.range n.toNat).length ≤ n.toNat by simp)] at c
    obtain ⟨c1, c2, acc, c3, c4⟩ := c
    exact q Dl H' (e2.free c1) (e2.trans c2) ⟨rfl, acc, c3, c4⟩
theorem et_yes : EvT tYes σ H true := fun H1 _ Q q => q H1 (Same.refl H1)
end
end Pt
namespace Pt
open PySem PySem.Spec PyProof.Rows L2
def twoNew (o : Obj) (h : Heap) : Heap := (h.push o).push { cls := .type "enumerate", data := .fields #[.none, .bool false, .ref h.objs.size, rawInt 0, .none, .none] }
open AutoSeq1 (wpAny_loadPart') in
theorem enum_made {v : Value} {o : Obj} {Ok : Heap → Prop} (B : Begins v o Ok) : Meets (Builtin.«enumerate.__new__» ⟨[.type "enumerate", v], []⟩) (fun _ R s => Ok s.heap ∧ R (.ok (.ret (.ref (s.heap.objs.size + 1)))) { s with heap := twoNew o s.heap }) := by
  refine .of_wp fun prog w A R ⟨hp, gs, dr, tk, os⟩ ⟨ok, q⟩ => ?_
  have sub := sub_enumerate
  have more : (hp.push o).objs.size = hp.objs.size + 1 := Heap.size_push ..
  have iter : ∀ {A' : Around} {E Q : Value → Shared → Prop}, Q (.ref hp.objs.size) ⟨hp.push o, gs, dr, tk, os⟩ → wpAny (model prog w) A' (pyIter v) Q E ⟨hp, gs, dr, tk, os⟩ := B.iter prog w _ _ ⟨hp, gs, dr, tk, os⟩ _ ok
  have fin : ∀ {a : Addr}, a = (hp.push o).objs.size → R (.ok (.ret (.ref a))) ⟨twoNew o hp, gs, dr, tk, os⟩ := fun e => by rw [e, more]; exact q
  wp_walk using iter
  refine wpAny_stack_any fun st => wpAny_pure ?_
  split <;> first
    | (rename_i c _ _ _ _ _; cases (c == Value.type "enumerate") <;> (wp_walk using iter; exact ⟨_, rfl, fin rfl⟩))
    | (wp_walk using iter; exact ⟨_, rfl, fin rfl⟩)
theorem call_enumG {prog : Program} {w : World} {A : Around} {E Q : Value → Shared → Prop} {s : Shared} {v : Value} {o : Obj} {Ok : Heap → Prop} (B : Begins v o Ok) (ok : Ok s.heap)
    (q : ∀ h', (∀ b ob, s.heap.get? b = some ob → h'.get? b = some ob) → h'.get? s.heap.objs.size = some o → IsEnum h' (s.heap.objs.size + 1) s.heap.objs.size 0 .none → Q (.ref (s.heap.objs.size + 1)) { s with heap := h' }) : wpAny (model prog w) A (call (.type "enumerate") [v]) Q E s := by
  have at1 : (twoNew o s.heap).get? (s.heap.objs.size + 1) = some { cls := .type "enumerate", data := .fields #[.none, .bool false, .ref s.heap.objs.size, rawInt 0, .none, .none] } := by
    rw [← Heap.size_push s.heap o]
    exact Heap.get?_push_size _ rfl
  exact callType_new F.called_enumerate (by decide) (F.typeCall_enumerate_1 v) (F.newCall_enumerate_1 v) (fun z => F.args_object_init_2 z v) F.entry_enumerate_new (enum_made B)
    ⟨ok, ⟨_, at1, rfl⟩, q _ (fun b ob z => Heap.get?_push_of_some _ (Heap.get?_push_of_some _ z)) (Heap.get?_push_of_some _ (Heap.get?_push_size _ B.free)) at1⟩
def ItE (J : It) : It := ⟨J.go, fun i H v H' => ∃ T x, v = .ref T ∧ H T = none ∧ H' = upd H T (.tup [.int (i : Nat), x]) ∧ J.yld i H x H, J.stop⟩
structure DrawSrc (P : Program) (w : World) (K : PySem.W.Frag) (J : It) (it : Addr) (st : Nat → Heap → Prop) : Prop where
  obj : ∀ i h, st i h → ∃ o, h.get? it = some o ∧ ∀ v, o.data ≠ .cell v
  keep : ∀ i h h', st i h → (∀ o, h.get? it = some o → h'.get? it = some o) → st i h'
  draw : ∀ (X : Cx), X.prog = P → X.w = w → X.K = K → X.calm = true → ∀ (i : Nat) (pins : List (Addr × Obj)) (s : Shared) (σ : L2.St) (H : Hp), Inv X pins σ H s → st i s.heap → J.go i H → ∃ (fp : List Addr) (n : Nat) (Pv : Nat → Value → Prop) (Sv : Nat → Heap → Prop), Draws P w X.A.in1 it fp n Pv Sv ∧ (∀ b ∈ fp, ∃ o, s.heap.get? b = some o ∧ o.cls ≠ .type "enumerate") ∧ i < n ∧ Sv i s.heap ∧ (∀ h, Sv (i + 1) h → st (i + 1) h) ∧ ∀ u, Pv i u → ∃ x, RelV x u ∧ J.yld i H x H
  over : ∀ (X : Cx), X.prog = P → X.w = w → X.K = K → X.calm = true → ∀ (i : Nat) (pins : List (Addr × Obj)) (s : Shared) (σ : L2.St) (H : Hp), Inv X pins σ H s → st i s.heap → J.stop i H → ∃ (fp : List Addr) (n : Nat) (Pv : Nat → Value → Prop) (Sv : Nat → Heap → Prop), Draws P w X.A.in1 it fp n Pv Sv ∧ Sv n s.heap
section
variable {P : Program} {w : World} {K : PySem.W.Frag} {J : It} {it : Addr} {st : Nat → Heap → Prop}
theorem turn_enumG {elts : List Expr} {kk : Nat} {tpos : Pos} (S : DrawSrc P w K J it st) (e : Addr) : Turn P w K (.Tuple elts kk tpos) (ItE J) [e, it] e (fun i h => e ≠ it ∧ st i h ∧ ∃ old, IsEnum h e it ((i : Nat) : Int) old) where
  mem := List.mem_cons_self
  obj := fun i h z b m => by
    obtain ⟨_, z, _, en⟩ := z
    simp only [List.mem_cons, List.not_mem_nil, or_false] at m
    rcases m with rfl | rfl
    · exact ⟨_, en, fun v => nofun⟩
    · exact S.obj i h z
  keep := fun i h h' z k => ⟨z.1, S.keep i h h' z.2.1 (k it (by simp)), z.2.2.choose, k e (by simp) _ z.2.2.choose_spec⟩
  item := by
    rintro X rfl rfl rfl hc i pins s σ H E I free ⟨ne, z, old, en⟩ go
    obtain ⟨fp, n, Pv, Sv, D, other, lt, z1, nxt, val⟩ := S.draw X rfl rfl rfl hc i pins s σ H I z go
    have apart : e ∉ fp := fun m => by
      obtain ⟨o, h1, h2⟩ := other e m
      rw [en] at h1
      cases h1
      exact h2 rfl
    refine wpAny_pyNext_enum_itemD D en z1 lt ne apart fun u h1 tk pu out z2 tup _ k1 => ⟨_, rfl, wpAny_letOwnedTupleGo_enum (s := { s with heap := h1, toks := tk + 1 }) out fun h2 en2 same => ?_⟩
    obtain ⟨x, rx, y⟩ := val u pu
    have older : ∀ b ∈ [e, it], b < s.heap.objs.size := fun b m => by
      simp only [List.mem_cons, List.not_mem_nil, or_false] at m
      rcases m with rfl | rfl
      · exact Heap.lt_size en
      · exact Heap.lt_size (S.obj i _ z).choose_spec.1
    have tup2 := (same.2 s.heap.objs.size (Nat.ne_of_gt (older e (by simp)))).trans tup
    have k2 : ∀ b ob, b ∉ [e, it] → s.heap.get? b = some ob → h2.get? b = some ob := fun b ob m q => by
      simp only [List.mem_cons, List.not_mem_nil, or_false, not_or] at m
      exact (same.2 b m.1).trans (k1 b ob m.1 m.2 q)
    refine ⟨.ref s.heap.objs.size, _, I.turnedNew (t' := tk + 1) (ob := .tup [.int (i : Nat), x]) k2 free (Nat.le_refl _) ⟨show 2 ≤ sizeLine by decide, [.int i tk, u], .cons ⟨_, rfl⟩ (.cons rx .nil), _, tup2, rfl, _, rfl⟩, rfl, ⟨_, x, rfl, I.hok.fresh (Nat.le_refl _), rfl, y⟩, ⟨ne, S.keep _ h1 h2 (nxt h1 z2) fun o q => (same.2 it ne.symm).trans q, u, en2⟩, fun b m => ?_⟩
    rw [upd_ne (Nat.ne_of_lt (older b m))]
    exact (free b m).1
  done := by
    rintro X rfl rfl rfl hc i pins s σ H E I free ⟨ne, z, old, en⟩ stop
    obtain ⟨fp, n, Pv, Sv, D, z1⟩ := S.over X rfl rfl rfl hc i pins s σ H I z stop
    obtain ⟨g0, g1, g2, g3, g4, g5⟩ := free it (by simp)
    exact wpAny_pyNext_enum_endD D en z1 fun h1 k => ⟨rfl, I.turned (t' := s.toks) (fun b o m q => k b o m q) g0 g1 g3 g4 g5⟩
  self := fun A i s Q E z h => wpAny_pyIter_enum z.2.2.choose_spec h
end
theorem pi_enumG {X : Cx} {e : Expr} {ta : TA} {p pos tpos : Pos} {elts : List Expr} {kk : Nat} {Wv : List V → Hp → (It → Hp → Prop) → Prop} (hg : Gl X "enumerate") (hm : X.mg "enumerate" = none) (ha : PA X [e] ta)
    (src : ∀ (pins : List (Addr × Obj)) (s : Shared) (σ : L2.St) (H : Hp) (R : It → Hp → Prop) (vs : List V) (us : List Value), Inv X pins σ H s → Vals vs us → Wv vs H R →
      ∃ (v : Value) (o : Obj) (Ok : Heap → Prop) (J : It) (st : Nat → Heap → Prop), us = [v] ∧ Begins v o Ok ∧ Ok s.heap ∧ DrawSrc X.prog X.w X.K J s.heap.objs.size st ∧ (∀ h, h.get? s.heap.objs.size = some o → st 0 h) ∧ R (ItE J) H)
    (hs : starEach [e] X.env = [(false, eval e X.env)] := by rfl) : PI X (.Tuple elts kk tpos) (.Call (.Name "enumerate" p) [e] [] pos) (fun σ H R => ta σ H fun vs H1 => Wv vs H1 R) := ⟨fun pins s σ H R I h => by
  refine Call_ (ld_blt I hg hm boot_enumerate (PyProof.Rows.callWith_type1 (thn (ha.run pos pins s σ H _ I h) fun us s1 ⟨vs, H1, I1, r1, q1⟩ => ?_) hs rfl))
  obtain ⟨v, o, Ok, J, st, rfl, B, ok, S, st0, q⟩ := src pins s1 σ H1 R vs us I1 r1 q1
  refine call_enumG B ok fun h1 k at0 en => wpAny_pyIter_enum en ⟨_, _, _, _, H1, rfl, I1.kept (t' := s1.toks) k, turn_enumG S _, ⟨Nat.succ_ne_self _, st0 h1 at0, .none, en⟩, fun b m => ?_, q⟩
  have le : s1.heap.objs.size ≤ b := by
    simp only [List.mem_cons, List.not_mem_nil, or_false] at m
    rcases m with rfl | rfl
    · exact Nat.le_succ _
    · exact Nat.le_refl _
  exact I1.fpOk le (I1.hok.fresh le)⟩
theorem src_tup {P : Program} {w : World} {K : PySem.W.Frag} (a it : Addr) : DrawSrc P w K (Itt K a) it (fun i h => h.IsTupleIter it a i) where
  obj := fun i h ⟨o, h1, _, h2⟩ => ⟨o, h1, fun v z => by rw [h2] at z; cases z⟩
  keep := fun i h h' ⟨o, h1, h2⟩ k => ⟨o, k o h1, h2⟩
  draw := by
    rintro X rfl rfl rfl hc i pins s σ H I z ⟨xs, x, hs, hx⟩
    obtain ⟨its, rv, ⟨o, g1, g2, g3⟩, hz⟩ := I.tuple hs
    obtain ⟨ot, t1, t2, t3⟩ := id z
    obtain ⟨u, hu, ru⟩ := rv.get hx
    have ne : a ≠ it := fun q => by
      subst q
      rw [g1] at t1
      cases t1
      rw [g2] at t2
      exact absurd t2 (by decide)
    refine ⟨_, _, _, _, Draws.tuple (A := X.A.in1) (show X.A.in1.handled = none from I.ok.hd hc) it a ne its.toArray, fun b m => ?_, ?_, ⟨z, o, g1, g2, g3⟩, fun h q => q.1, fun u' hu' => ⟨x, ?_, rfl, fun ys hy => by rw [I.tuple_inj hy hs]; exact hx⟩⟩
    · simp only [List.mem_cons, List.not_mem_nil, or_false] at m
      rcases m with rfl | rfl
      · exact ⟨ot, t1, by rw [t2]; decide⟩
      · exact ⟨o, g1, by rw [g2]; decide⟩
    · have := (List.getElem?_eq_some_iff.mp hu).1
      simpa using this
    · have : its[i]? = some u' := by simpa using hu'
      rw [hu] at this
      cases this
      exact ru
  over := by
    rintro X rfl rfl rfl hc i pins s σ H I z ⟨xs, hs, hx⟩
    obtain ⟨its, rv, p, hz⟩ := I.tuple hs
    have gone : its.toArray[i]? = none := by
      have := rv.length
      simp
      omega
    refine ⟨[it, a], i, fun _ _ => False, fun j h => j = i ∧ h.IsTupleIter it a i ∧ h.IsTuple a its.toArray, ⟨fun j h q => let ⟨o, q, _⟩ := q.2.1; ⟨o, q⟩, ?_, ?_, ?_⟩, rfl, z, p⟩
    · exact fun j h h' q k => ⟨q.1, q.2.1.at fun o z => k it (by simp) o z, q.2.2.at fun o z => k a (by simp) o z⟩
    · exact fun j s' Q E lt q => absurd q.1 (by omega)
    · exact fun s' Q E q hE => wpAny_nextOf_tuple_end (show X.A.in1.handled = none from I.ok.hd hc) q.2.1 q.2.2 gone hE
def Itet (K : PySem.W.Frag) (a : Addr) : It := ItE (Itt K a)
def iEnumT (K : PySem.W.Frag) (ta : TA) : TI := fun σ H R => ta σ H fun vs H1 => ∃ a xs, vs = [.ref a] ∧ SqT K H1 a xs ∧ R (Itet K a) H1
theorem pi_enumT {X : Cx} {e : Expr} {ta : TA} {p pos tpos : Pos} {elts : List Expr} {kk : Nat} (hg : Gl X "enumerate") (hm : X.mg "enumerate" = none) (ha : PA X [e] ta) (hs : starEach [e] X.env = [(false, eval e X.env)] := by rfl) : PI X (.Tuple elts kk tpos) (.Call (.Name "enumerate" p) [e] [] pos) (iEnumT X.K ta) :=
  pi_enumG hg hm ha (fun pins s σ H R vs us I r z => by
    obtain ⟨a, xs, rfl, hq, q⟩ := z
    obtain ⟨u, rfl, ru⟩ := r.one
    obtain rfl : u = .ref a := ru
    obtain ⟨its, rv, p', hz⟩ := I.tuple hq
    exact ⟨_, _, _, _, _, rfl, begins_tuple a its.toArray, p', src_tup a _, fun h q => ⟨_, q, rfl, rfl⟩, q⟩) hs
end Pt
namespace Pt
open PySem PySem.Spec PyProof.Rows L2
structure Written (X : Cx) (o : Expr) (name : Str) (apos cpos : Pos) (e : Expr) (es : List Expr) : Prop where
  base : attributeBase o name X.env (eval o X.env) = eval o X.env
  few : ((backTo cpos (starEach (e :: es) X.env)).all (fun x => !x.1) && (backToKw cpos (keywordEach [] X.env)).all (fun x => x.1.isSome) && decide ((e :: es).length + ([] : List Keyword).length + (if ([] : List Keyword).isEmpty then 0 else 1) < 30)) = true
  line : (apos.endLine == cpos.line) = true
  head : starEach (e :: es) X.env = (false, eval e X.env) :: starEach es X.env
  plain : (backTo cpos (starEach es X.env)).any (·.1) = false
theorem pe_bmG {X : Cx} {o e : Expr} {es : List Expr} {to : TE} {t : TA} {name : Str} {apos cpos : Pos} {T id : String} {r : V → List V → Hp → VK → Prop} {W : V → Hp → Prop} (pa : PlainAttrs T) (slot : Slot T name id) (hty : typeOf (.builtin id) = pure (.type "method_descriptor")) (hm : MtR X id r)
    (is : ∀ (pins : List (Addr × Obj)) (s : Shared) (σ : L2.St) (H : Hp) (x : V), Inv X pins σ H s → W x H → ∃ p ob, x = .ref p ∧ s.heap.get? p = some ob ∧ ob.cls = .type T ∧ ob.dict = none) (ho : PE X o to) (ha : PA X (e :: es) t) (c : Written X o name apos cpos e es) :
    PE X (.Call (.Attribute o name apos) (e :: es) [] cpos) (fun σ H Q => to σ H fun x H1 => W x H1 ∧ t σ H1 fun vs H2 => r x vs H2 Q) := ⟨fun pins s σ H Q I h => wpAny_Call_method_late c.base c.few c.line rfl (thn (ho.run pins s σ H _ I h) fun v s1 ⟨x, H1, I1, r1, w, q⟩ => by
  obtain ⟨p, ob, rfl, at0, cls, nd⟩ := is pins s1 σ H1 x I1 w
  obtain rfl : v = .ref p := r1
  have go := ha.run cpos pins s1 σ H1 _ I1 q
  rw [c.head] at go
  refine ⟨T, id, pa, slot, hty, ⟨ob, at0, cls⟩, fun a ea => ⟨ob, by cases ea; exact at0, nd⟩, ?_⟩
  rw [c.head]
  exact Calls.callWith_builtin ((Bool.false_or _).trans c.plain) (Calls.evalArgs_plain (thn go fun us s2 ⟨vs, H2, I2, r2, q2⟩ => hm pins s2 σ H2 (.ref p) vs _ us Q I2 rfl r2 q2)))⟩
end Pt
namespace Pt
open PySem PySem.Spec PyProof.Rows L2
def Sl3 (X : Cx) (r : V → Option Int → Option Int → Option Int → Hp → VK → Prop) : Prop := ∀ (pins : List (Addr × Obj)) (s : Shared) (σ : L2.St) (H : Hp) (Q : VK) (x : V) (v vl vu vs : Value) (lo hi st : Option Int) (sl : Addr), Inv X pins σ H s → RelV x v → s.heap.IsSliceOf sl vl vu vs → IsPart vl lo ∧ IsPart vu hi ∧ IsPart vs st → r x lo hi st H Q →
  ∃ T id, typeLookup (.type T) "__getitem__" = pure (some (.builtin id)) ∧ s.TypeIs v T ∧ wpAny (model X.prog X.w) X.A (getItem v (.ref sl)) (EP X pins σ Q) X.xe s
def tSl3 (r : V → Option Int → Option Int → Option Int → Hp → VK → Prop) (te : TE) (tl th ts : TO) : TE := fun σ H Q => te σ H fun x H1 => tl σ H1 fun lo H2 => th σ H2 fun hi H3 => ts σ H3 fun st H4 => r x lo hi st H4 Q
theorem pe_sl3 {X : Cx} {e : Expr} {lo hi st : Option Expr} {te : TE} {tl th ts : TO} {p2 pos : Pos} {r : V → Option Int → Option Int → Option Int → Hp → VK → Prop} (ops : Value → Value → List Value) (hop : ∀ v w, subscripted (.Slice lo hi st p2) false v w = operate (ops v w) (getItem v w)) (hr : Sl3 X r) (he : PE X e te) (hl : PO X lo tl) (hu : PO X hi th) (hs : PO X st ts) : PE X (.Subscript e (.Slice lo hi st p2) pos) (tSl3 r te tl th ts) :=
  ⟨fun pins s σ H Q I h => Subscript_ (thn (he.run pins s σ H _ I h) fun v _ ⟨x, _, I1, rx, h⟩ => wpAny_Slice (thn (hl.run pins _ σ _ _ I1 h) fun vl _ ⟨l, _, I2, pl, h⟩ => thn (hu.run pins _ σ _ _ I2 h) fun vu _ ⟨u, _, I3, pu, h⟩ => thn (hs.run pins _ σ _ _ I3 h) fun vs s4 ⟨t, H4, I4, pt, h⟩ => by
    obtain ⟨T, id, look, is, run⟩ := hr pins { s4 with heap := s4.heap.push { cls := .type "slice", data := .fields #[vl, vu, vs] } } σ H4 Q x v vl vu vs l u t _ (I4.kept (t' := s4.toks) fun _ _ z => Heap.get?_push_of_some _ z) rx (Heap.IsSliceOf.new _ _ _ _) ⟨pl, pu, pt⟩ h
    exact tail_any is look run (hop _ _)))⟩
end Pt
namespace Pt
open PySem PySem.Spec PyProof.Rows L2
variable {X : Cx} {o i e : Expr} {td ty tv : TE} {pos pos' : Pos}
abbrev Told (X : Cx) (W : V → V → Hp → VK → Prop) (Then : (List (Addr × Obj)) → Shared → L2.St → Hp → VK → Value → Value → Prop) : Prop := ∀ (pins : List (Addr × Obj)) (s : Shared) (σ : L2.St) (H : Hp) (x y : V) (u v : Value) (Q : VK), Inv X pins σ H s → RelV x u → RelV y v → W x y H Q → Then pins s σ H Q u v
theorem pe_at {W : V → V → Hp → VK → Prop} (go : Told X W fun pins s σ _ Q u v => s.TypeIs u "dict" ∧ wpAny (model X.prog X.w) X.A (getItem u v) (EP X pins σ Q) X.xe s) (ho : PE X o td) (hi : PE X i ty) (hs : NoSl i) : PE X (.Subscript o i pos) (fun σ H Q => td σ H fun x H1 => ty σ H1 fun y H2 => W x y H2 Q) :=
  ⟨fun pins _ σ _ Q I h => subD_of PySem.F.slot_dict_getitem.lookup hs (thn (ho.run pins _ σ _ _ I h) fun _ _ ⟨_, _, I1, r1, h1⟩ => thn (hi.run pins _ σ _ _ I1 h1) fun _ _ ⟨_, _, I2, r2, h2⟩ => go pins _ σ _ _ _ _ _ Q I2 r1 r2 h2)⟩
theorem pc_at {op : CmpOp} {W : V → V → Hp → VK → Prop} (go : Told X W fun pins s σ _ Q v u => wpAny (model X.prog X.w) X.A (compareOp op v u) (EP X pins σ Q) X.xe s) (hi : PE X i ty) (ho : PE X o td) : PC X op i o (fun σ H Q => ty σ H fun y H1 => td σ H1 fun x H2 => W y x H2 Q) :=
  ⟨fun pins _ σ _ Q I h => thn (hi.run pins _ σ _ _ I h) fun _ _ ⟨_, _, I1, r1, h1⟩ => thn (ho.run pins _ σ _ _ I1 h1) fun _ _ ⟨_, _, I2, r2, h2⟩ => go pins _ σ _ _ _ _ _ Q I2 r1 r2 h2⟩
theorem ps_at {W : V → V → V → Hp → (Hp → Prop) → Prop} (go : ∀ (pins : List (Addr × Obj)) (s : Shared) (σ : L2.St) (H : Hp) (x y z : V) (u v w : Value) (Q : Hp → Prop), Inv X pins σ H s → RelV x u → RelV y v → RelV z w → W x y z H Q → wpAny (model X.prog X.w) X.A (setItem u v w) (fun _ s' => ∃ H', Inv X pins σ H' s' ∧ Q H') X.xe s) (ho : PE X o td) (hi : PE X i ty) (he : PE X e tv) (hs : swapsWith e (some (.Subscript o i pos')) pos.line X.env = pure false) :
    PS X (.Assign [.Subscript o i pos'] e pos) (fun D σ H => tv σ H fun z H1 => td σ H1 fun x H2 => ty σ H2 fun y H3 => W x y z H3 (D.nx σ)) :=
  ⟨fun pins _ σ _ D I h => wpAny_Assign_Subscript (thn (he.run pins _ σ _ _ I h) fun _ _ ⟨_, _, I1, r1, h1⟩ => thn (ho.run pins _ σ _ _ I1 h1) fun _ _ ⟨_, _, I2, r2, h2⟩ => thn (hi.run pins _ σ _ _ I2 h2) fun _ _ ⟨_, _, I3, r3, h3⟩ => wpAny_mono (go pins _ σ _ _ _ _ _ _ _ _ I3 r2 r3 r1 h3) (fun _ _ ⟨H', I', q⟩ => ⟨σ, H', I', q⟩) fun _ _ z => z) hs⟩
end Pt
namespace Pt
open PySem PySem.Spec PyProof.Rows L2
theorem int_cells {its : List Value} {ns : List Int} (i : IntsAre its ns) (j : Nat) (h : j < its.toArray.size) : ∃ t, its.toArray[j] = .int (ns.getD j 0) t :=
  PyProof.Rows.IntsAre.int_at i _ _ (by simp at h; simp [h])
theorem eq_cells {A : Around} {s : Shared} (a b : Int) (t t' : Tok) : SeqAt.EqAt A s (.int a t) (.int b t') (decide (a = b)) := by
  have z : (a == b) = decide (a = b) := by
    by_cases e : a = b <;> simp [e]
  exact z ▸ SeqAt.EqAt.int_int a t b t'
section
variable {X : Cx}
def eqI (k : Int) (v : Value) : Bool := match v with
  | .int j _ => j == k
  | _ => false
def rCntT (K : PySem.W.Frag) : V → List V → Hp → VK → Prop := fun x xs H Q => ∃ (p : Addr) (ns : List Int) (k : Int), x = .ref p ∧ xs = [.int k] ∧ SqT K H p (ns.map V.int) ∧ Q (.int (ns.count k : Nat)) H
theorem intsAre_countP {k : Int} : ∀ {its : List Value} {ns : List Int}, IntsAre its ns → its.countP (eqI k) = ns.count k
  | _, _, .nil => rfl
  | _, _, .cons n t h => by
    rw [List.countP_cons, List.count_cons, intsAre_countP h]
    rfl
theorem mt_tcount : MtR X "tuple.count" (rCntT X.K) := fun pins s σ H x xs v us Q I rx rxs ⟨p, ns, k, ex, exs, tup, q⟩ => by
  subst ex exs
  obtain rfl : v = .ref p := rx
  obtain ⟨_, rfl, t, rfl⟩ := rxs.one
  obtain ⟨its, rv, ⟨⟨_, dd, _, sl⟩, here, rfl, n, rfl⟩, _⟩ := I.tuple tup
  have ia : IntsAre its ns := Vals.ints rv
  refine call_meets PySem.F.slot_tuple_count ⟨_, here, rfl⟩ PySem.F.entry_tuple_count (PySem.F.args_tuple_count_2 _ _) (SeqAt.tuple_countAt p its.toArray n dd sl (.int k t) (eqI k)) ⟨here, fun y hy => ?_, .int (ns.count k : Nat), H, I.tok _, ⟨s.toks, congrArg (fun m : Nat => Value.int m s.toks) (intsAre_countP ia)⟩, q⟩
  obtain ⟨j, lt, rfl⟩ := Array.getElem_of_mem hy
  obtain ⟨t', e⟩ := int_cells ia j lt
  rw [e]
  exact SeqAt.EqAt.int_int _ _ _ _
def rIdx3 (K : PySem.W.Frag) : V → List V → Hp → VK → Prop := fun x xs H Q => ∃ (p : Addr) (ns : List Int) (k : Int) (a j : Nat), x = .ref p ∧ xs = [.int k, .int a] ∧ SqL K H p (ns.map V.int) ∧ a ≤ j ∧ ns[j]? = some k ∧ (∀ m, a ≤ m → m < j → ns[m]? ≠ some k) ∧ Q (.int (j : Nat)) H
theorem mt_index3 : MtR X "list.index" (rIdx3 X.K) := by
  intro pins s σ H x xs v us Q I rx rxs h
  obtain ⟨p, ns, k, a, j, rfl, rfl, hs, haj, hj, hno, q⟩ := h
  cases rx
  obtain ⟨u, u2, rfl, ru, ru2⟩ := rxs.two
  obtain ⟨t, rfl⟩ := ru
  obtain ⟨t2, rfl⟩ := ru2
  obtain ⟨its, rv, ⟨⟨cls, dd, data, sl⟩, n, ho, hc, hdn, hd⟩, hlen⟩ := I.list hs
  simp only at hc hd
  subst hc hd
  have hi : IntsAre its ns := Vals.ints rv
  have hl : its.length = ns.length := hi.length
  have hz := sizeLine_eq
  have hjn : j < ns.length := (List.getElem?_eq_some_iff.mp hj).1
  have hjk : ns[j] = k := by rw [List.getElem?_eq_getElem hjn] at hj; exact Option.some.inj hj
  rw [List.length_map] at hlen
  refine call_meets PySem.F.slot_list_index ⟨_, ho, rfl⟩ PySem.F.entry_list_index (PySem.F.args_list_index_3 _ _ _)
    (PySem.SeqAt.list_index3_found p its.toArray n dd sl (.int k t) (fun m => decide (ns.getD m 0 = k)) (a : Int) t2 j (by rw [List.size_toArray]; omega) (by rw [PySem.SeqAt.searchFrom_nat]; exact haj) (by omega) ?_ ?_) ⟨ho, fun m hm => ?_, ?_⟩
  · simp [List.getD, hj]
  · intro m hm ham hmj
    rw [PySem.SeqAt.searchFrom_nat] at ham
    have z := hno m ham hmj
    have hmn : m < ns.length := by omega
    rw [List.getElem?_eq_getElem hmn] at z
    simp only [List.getD, List.getElem?_eq_getElem hmn, Option.getD_some]
    exact decide_eq_false fun e => z (by rw [e])
  · have hm' : m < its.length := by simpa using hm
    have hmn : m < ns.length := by omega
    obtain ⟨u, hu, ru⟩ := rv.get (i := m) (x := .int ns[m]) (by rw [List.getElem?_map, List.getElem?_eq_getElem hmn]; rfl)
    rw [List.getElem?_eq_getElem hm'] at hu
    cases hu
    obtain ⟨t', e⟩ := ru
    have e2 : its.toArray[m] = its[m] := by simp
    rw [e2, e]
    simp only [List.getD, List.getElem?_eq_getElem hmn, Option.getD_some]
    have z := SeqAt.EqAt.int_int (A := X.A.in1) (s := s) ns[m] t' k t
    have ez : (ns[m] == k) = decide (ns[m] = k) := by
      by_cases q : ns[m] = k
      · rw [decide_eq_true q]; exact beq_iff_eq.mpr q
      · rw [decide_eq_false q]; exact beq_eq_false_iff_ne.mpr q
    rw [ez] at z
    exact z
  · exact ⟨.int (j : Nat), H, I.tok _, ⟨_, rfl⟩, q⟩
def rInT (K : PySem.W.Frag) : R2 := fun x y H Q => ∃ d ds, Dp K H x d ∧ Dp K H y (.tuple ds) ∧ SeqAt.shaped d = true ∧ SeqAt.shaped (.tuple ds) = true ∧ Q (.bl (ds.any fun z => PyData.eqv z d)) H
theorem op_inT (hu : X.A.units + 65 < cLine) : OpR X (compareOp .In) (rInT X.K) := by
  intro pins s σ H x y v u Q I rx ry h
  obtain ⟨d, ds, hd, he, sd, se, q⟩ := h
  obtain ⟨as, r1⟩ := Dp.reads I d x v hd rx
  obtain ⟨bs, r2⟩ := Dp.reads I (.tuple ds) y u he ry
  exact SeqAt.in_tuple_reads r2 r1 (SeqAt.canLay_of_shaped se) (SeqAt.canLay_of_shaped sd) (room_in_shaped sd hu) ⟨.bl _, H, I, rfl, q⟩
end
end Pt
namespace Pt
open PySem PySem.Spec PyProof.Rows L2
variable {K : PySem.W.Frag} {C : Addr} {H H' H1 H2 : Hp} {v w x y : V} {vs : List V} {d e : PyData} {ds es : List PyData}
variable {S : List Addr} {G : List (V × PyData)} {H0 : Hp} {σ : L2.St} {Γ : List Ct} {i j : Nat} {c : Ct} {te ta tb tc tl : TE} {t u : TT}
theorem pt_tru {X : Cx} {a : Expr} {ta : TE} (ha : PE X a ta) (he : ∀ whole, isTrue a X.env whole = (do let v ← whole; standAt a.pos; holding [v] (truthy v))) : PT X a (tTru X.K ta) := pt_truth ha he
theorem et_truB {b : Bool} (h : EvC K C te σ H (.d (.bool b))) : EvT (tTru K te) σ H b := fun H1 e1 Q q => h H1 e1 _ fun v H2 e2 a => by
  rw [Td.bl_of a]
  exact ⟨b, rfl, q H2 e2⟩
theorem et_truT (h : EvC K C te σ H (.d (.tuple ds))) : EvT (tTru K te) σ H (!ds.isEmpty) := fun H1 e1 Q q => h H1 e1 _ fun v H2 e2 a => by
  obtain ⟨p, xs, rfl, s, t⟩ := Td.tup_of a
  refine ⟨!ds.isEmpty, .inr (.inl ⟨xs, s.sq, ?_⟩), q H2 e2⟩
  cases t <;> rfl
theorem et_truI {k : Int} (h : EvC K C te σ H (.d (.int k))) : EvT (tTru K te) σ H (k != 0) := fun H1 e1 Q q => h H1 e1 _ fun v H2 e2 a => by
  rw [Td.int_of a]
  exact ⟨_, rfl, q H2 e2⟩
theorem pe_notP {X : Cx} {a : Expr} {pos : Pos} {ta : TE} (ha : PE X a ta) : PE X (.UnaryOp .Not a pos) (tNotV ta) := pe_not ha
def tyName : PyData → String
  | .none => "NoneType"
  | .bool _ => "bool"
  | .int _ => "int"
  | .str _ => "str"
  | .list _ => "list"
  | .tuple _ => "tuple"
  | .dict _ => "dict"
theorem Td.ty : ∀ {d : PyData} {v : V}, Td K H v d → TyX K H v (.type (tyName d))
  | _, _, .non => .base .non
  | _, _, .bl b => .base (.bl b)
  | _, _, .int k => .base (.int k)
  | _, _, .str z => .base (.str z)
  | _, _, .tup s _ => by
    obtain ⟨o, s, _⟩ := s
    exact .fTuple s
  | _, _, .lst s _ => by
    obtain ⟨o, s⟩ := s
    exact .base (.frz s)
theorem ev_isi {T : String} {b : Bool} (h : EvC K C te σ H (.d d)) (hk : kitB (tyName d) T = some b) : EvC K C (tCB (rIsi K) (tCons te (tCons (tC (.ty T)) tNil))) σ H (.d (.bool b)) := fun H1 e1 Q q =>
  h H1 e1 _ fun v H2 e2 a => ⟨v, .ty T, _, _, b, rfl, .ty T, Td.ty a, kit_ty hk, q _ H2 e2 (.bl b)⟩
def tBMT (r : V → List V → Hp → VK → Prop) (to : TE) (t : TA) : TE := fun σ H Q => to σ H fun x H1 => (∃ p xs, x = .ref p ∧ SqF H1 p xs) ∧ t σ H1 fun vs H2 => r x vs H2 Q
theorem pe_bmT {X : Cx} {o e : Expr} {es : List Expr} {to : TE} {t : TA} {name : Str} {apos cpos : Pos} {id : String} {r : V → List V → Hp → VK → Prop} (pa : PlainAttrs "tuple") (slot : Slot "tuple" name id) (hty : typeOf (.builtin id) = pure (.type "method_descriptor")) (hm : MtR X id r) (ho : PE X o to) (ha : PA X (e :: es) t) (c : Written X o name apos cpos e es := by exact ⟨rfl, rfl, rfl, rfl, rfl⟩) : PE X (.Call (.Attribute o name apos) (e :: es) [] cpos) (tBMT r to t) :=
  pe_bmG pa slot hty hm (fun pins s σ H x I ⟨p, xs, ex, ob, eo, nd⟩ => by
    obtain ⟨here, _⟩ := I.hok p _ eo
    obtain ⟨its, _, ⟨o2, e2, c2, _⟩, _⟩ := I.tuple (SqF.sq ⟨ob, eo, nd⟩)
    rw [here] at e2
    cases e2
    exact ⟨p, ob, ex, here, c2, nd⟩) ho ha c
theorem ev_countT {l : List Int} {k : Int} (ha : EvC K C ta σ H (.d (row l))) (hb : EvC K C tb σ H (.d (.int k))) : EvC K C (tBMT (rCntT K) ta (tCons tb tNil)) σ H (.d (.int (l.count k : Nat))) := fun H1 e1 Q q =>
  ha H1 e1 _ fun v H2 e2 a => by
    obtain ⟨p, xs, rfl, s, t⟩ := Td.tup_of a
    have ex := t.iL_of
    subst ex
    exact ⟨⟨p, _, rfl, s⟩, hb H2 (e1.trans e2) _ fun y H3 e3 b => ⟨p, l, k, rfl, by rw [Td.int_of b], ((Tx.of e3).sqF s).sq, q _ H3 (e2.trans e3) (.int _)⟩⟩
theorem ev_in2 {k a b : Int} (ha : EvC K C ta σ H (.d (.int k))) (h1 : EvC K C tb σ H (.d (.int a))) (h2 : EvC K C tc σ H (.d (.int b))) :
    EvC K C (tOp (rIn K false) ta (tTupF (tCons tb (tCons tc tNil)))) σ H (.d (.bool (decide (k = a ∨ k = b)))) :=
  ev_op2 ha (ev_tup (ed_cons h1 (ed_cons h2 ed_nil))) fun H1 _ x y a1 a2 Q q => by
    obtain ⟨p, xs, rfl, s, t⟩ := Td.tup_of a2
    cases t with
    | cons t1 t =>
      cases t with
      | cons t2 t =>
        cases t
        rw [Td.int_of t1, Td.int_of t2] at s
        rw [Td.int_of a1]
        refine ⟨p, _, rfl, .inr s.sq, rfl, rfl, q _ H1 (Same.refl H1) ?_⟩
        have z : inV (.int k) [.int a, .int b] = decide (k = a ∨ k = b) := by
          show (eqV (.int a) (.int k) || (eqV (.int b) (.int k) || false)) = _
          have e1 : ∀ m : Int, eqV (.int m) (.int k) = decide (k = m) := fun m => by
            show (m == k) = decide (k = m)
            by_cases q : k = m
            · subst q; simp
            · simp [q, Ne.symm q]
          rw [e1, e1, Bool.or_false]
          by_cases q1 : k = a <;> by_cases q2 : k = b <;> simp [q1, q2]
        show Td K H1 (.bl (if false = true then _ else _)) _
        rw [if_neg Bool.false_ne_true, z]
        exact .bl _
theorem shaped_pair (a b : Int) : SeqAt.shaped (.tuple [.int a, .int b]) = true := shaped_row [a, b]
theorem lay_pairs : ∀ ps : List (Int × Int), PyData.canLayAll0 (ps.map pairD) = true
  | [] => by simp [PyData.canLayAll0]
  | p :: ps => by
    have := lay_pairs ps
    simp [PyData.canLayAll0, PyData.canLay0, pairD, this]
theorem depth_pairs : ∀ ps : List (Int × Int), PyData.depthAll (ps.map pairD) ≤ 2
  | [] => by simp [PyData.depthAll]
  | p :: ps => by
    have := depth_pairs ps
    simp only [List.map_cons, PyData.depthAll, PyData.depth, pairD]
    omega
theorem shaped_pairs (ps : List (Int × Int)) : SeqAt.shaped (pairsD ps) = true := by
  show ((pairsD ps).canLay0 && decide ((pairsD ps).depth ≤ 64)) = true
  have h1 := depth_pairs ps
  rw [Bool.and_eq_true]
  refine ⟨?_, decide_eq_true ?_⟩
  · simp only [pairsD, PyData.canLay0]; exact lay_pairs ps
  · simp only [pairsD, PyData.depth]; omega
theorem any_pairs (a b : Int) : ∀ ps : List (Int × Int), ((ps.map pairD).any fun z => PyData.eqv z (.tuple [.int a, .int b])) = decide ((a, b) ∈ ps)
  | [] => by simp
  | (x, y) :: ps => by
    rw [List.map_cons, List.any_cons, any_pairs a b ps]
    have e : PyData.eqv (pairD (x, y)) (.tuple [.int a, .int b]) = decide ((a, b) = (x, y)) := by
      have z := eqv_row [x, y] [a, b]
      show PyData.eqv (row [x, y]) (row [a, b]) = _
      rw [z]
      by_cases q : (a, b) = (x, y)
      · cases q; simp
      · rw [decide_eq_false q, decide_eq_false]
        intro q'
        apply q
        simp at q'
        rw [q'.1, q'.2]
    rw [e]
    by_cases q : (a, b) = (x, y)
    · simp [q]
    · simp [q]
theorem ev_inP {a b : Int} {ps : List (Int × Int)} (ha : EvC K C ta σ H (.d (.tuple [.int a, .int b]))) (hb : EvC K C tb σ H (.d (pairsD ps))) : EvC K C (tOp (rInT K) ta tb) σ H (.d (.bool (decide ((a, b) ∈ ps)))) :=
  any_pairs a b ps ▸ ev_op2 ha hb fun H1 _ x y a1 a2 Q q => ⟨_, ps.map pairD, Td.dp _ _ a1, Td.dp _ _ a2, shaped_pair a b, shaped_pairs ps, q _ H1 (Same.refl H1) (.bl _)⟩
theorem kne : (("_pairs" : Str) == "_letters") = false := by decide +kernel
theorem flds_pairs (n : Int) (r : Addr) : (flds n r).lookup ("_pairs" : Str) = some (.ref r) := by
  unfold flds
  rw [List.lookup_cons, kne, List.lookup_cons, beq_self_eq_true]
theorem ev_letters {n : Int} {ps : List (Int × Int)} {E : XK} (ha : EvC K C ta σ H (.t n ps)) : EvC K C (tProp C (getSp C "_letters") [] E ta) σ H (.d (.int n)) := fun H1 e1 Q q =>
  ha H1 e1 _ fun v H2 e2 a => by
    obtain ⟨p, dx, r, rfl, h1, h2⟩ := a
    exact ⟨p, dx, _, rfl, h1, p, dx, _, .int n, rfl, h1, rfl, q _ H2 e2 (.int n)⟩
theorem ev_pairs {n : Int} {ps : List (Int × Int)} {E : XK} (ha : EvC K C ta σ H (.t n ps)) : EvC K C (tProp C (getSp C "_pairs") [] E ta) σ H (.d (pairsD ps)) := fun H1 e1 Q q =>
  ha H1 e1 _ fun v H2 e2 a => by
    obtain ⟨p, dx, r, rfl, h1, h2⟩ := a
    exact ⟨p, dx, _, rfl, h1, p, dx, _, .ref r, rfl, h1, flds_pairs _ _, q _ H2 e2 h2⟩
section
variable {X : Cx} (K : PySem.W.Frag)
theorem op_addK (h : X.K = K := by rfl) : OpR X (binaryOp .Add) (rAddU K) := h ▸ op_addU
theorem op_eqK (hu : X.A.units + 64 < cLine) (h : X.K = K := by rfl) : OpR X (compareOp .Eq) (rEqD K) := h ▸ op_eqD hu
theorem op_neK (hu : X.A.units + 64 < cLine) (h : X.K = K := by rfl) : OpR X (compareOp .NotEq) (rNeD K) := h ▸ op_neD hu
theorem op_inK (h : X.K = K := by rfl) : OpR X (compareOp .In) (rIn K false) := h ▸ op_in_seq
theorem op_notInK (h : X.K = K := by rfl) : OpR X (compareOp .NotIn) (rIn K true) := h ▸ op_notIn_seq
theorem op_inTK (hu : X.A.units + 65 < cLine) (h : X.K = K := by rfl) : OpR X (compareOp .In) (rInT K) := h ▸ op_inT hu
theorem op_leTK (hu : X.A.units < cLine) (h : X.K = K := by rfl) : OpR X (compareOp .LtE) (rLeT K) := h ▸ op_leT hu
theorem op_ltTK (hu : X.A.units < cLine) (h : X.K = K := by rfl) : OpR X (compareOp .Lt) (rLtT K) := h ▸ op_ltT hu
theorem ix_K (h : X.K = K := by rfl) : IxR X (rIx K) := h ▸ ix_seq
theorem sl_K (h : X.K = K := by rfl) : SlR X (rSlU K) := h ▸ sl_U
theorem call_lenK (h : X.K = K := by rfl) : CallR X (.builtin "len") (rLen K) := h ▸ call_len1
theorem call_listK (h : X.K = K := by rfl) : CallR X (.type "list") (rListOf K) := h ▸ call_list_of'
theorem call_tupleK (h : X.K = K := by rfl) : CallR X (.type "tuple") (rTupleOf K) := h ▸ call_tuple_of'
theorem call_allK (hc : X.calm = true) (h : X.K = K := by rfl) : CallR X (.builtin "all") (rAll K) := h ▸ cr_all hc
theorem call_anyK (hc : X.calm = true) (h : X.K = K := by rfl) : CallR X (.builtin "any") (rAny K) := h ▸ cr_any hc
theorem call_isiK (h : X.K = K := by rfl) : CallR X (.builtin "isinstance") (rIsi K) := h ▸ call_isi
theorem mt_tcountK (h : X.K = K := by rfl) : MtR X "tuple.count" (rCntT K) := h ▸ mt_tcount
theorem mt_index3K (h : X.K = K := by rfl) : MtR X "list.index" (rIdx3 K) := h ▸ mt_index3
theorem pt_truK {a : Expr} {ta : TE} (ha : PE X a ta) (he : ∀ whole, isTrue a X.env whole = (do let v ← whole; standAt a.pos; holding [v] (truthy v))) (h : X.K = K := by rfl) : PT X a (tTru K ta) := h ▸ pt_tru ha he
theorem pi_tupK {tg l : Expr} {tl : TE} (hl : PE X l tl) (h : X.K = K := by rfl) : PI X tg l (iTup K tl) := h ▸ pi_tup hl
theorem pi_listK {tg l : Expr} {tl : TE} (hl : PE X l tl) (h : X.K = K := by rfl) : PI X tg l (iList K tl) := h ▸ pi_list hl
end
theorem Wd.start1 {N : List Str} {v1 : V} {c1 : Ct} (a1 : AgAt K C H v1 (.c c1)) (ho : [c1].all (fun c => !c.own) = true := by rfl) (hl : 1 ≤ N.length := by decide) :
    Wd K C [] [] H H (L2.start N [v1]) ([c1] ++ List.replicate (N.length - 1) .u) := Wd.start (vs := [v1]) (cs := [c1]) ⟨a1, True.intro⟩ ho hl
theorem Wd.start2 {N : List Str} {v1 v2 : V} {c1 c2 : Ct} (a1 : AgAt K C H v1 (.c c1)) (a2 : AgAt K C H v2 (.c c2)) (ho : [c1, c2].all (fun c => !c.own) = true := by rfl) (hl : 2 ≤ N.length := by decide) :
    Wd K C [] [] H H (L2.start N [v1, v2]) ([c1, c2] ++ List.replicate (N.length - 2) .u) := Wd.start (vs := [v1, v2]) (cs := [c1, c2]) ⟨a1, a2, True.intro⟩ ho hl
theorem Wd.start3 {N : List Str} {v1 v2 v3 : V} {c1 c2 c3 : Ct} (a1 : AgAt K C H v1 (.c c1)) (a2 : AgAt K C H v2 (.c c2)) (a3 : AgAt K C H v3 (.c c3)) (ho : [c1, c2, c3].all (fun c => !c.own) = true := by rfl) (hl : 3 ≤ N.length := by decide) :
    Wd K C [] [] H H (L2.start N [v1, v2, v3]) ([c1, c2, c3] ++ List.replicate (N.length - 3) .u) := Wd.start (vs := [v1, v2, v3]) (cs := [c1, c2, c3]) ⟨a1, a2, a3, True.intro⟩ ho hl
theorem Args.four {vs : List V} {a b c d : Ag} (h : Args K C H vs [a, b, c, d]) : ∃ v w x y, vs = [v, w, x, y] ∧ AgAt K C H v a ∧ AgAt K C H w b ∧ AgAt K C H x c ∧ AgAt K C H y d := by
  match vs, h with
  | [v, w, x, y], ⟨h, g, f, k, _⟩ => exact ⟨v, w, x, y, rfl, h, g, f, k⟩
theorem Wd.start4 {N : List Str} {v1 v2 v3 v4 : V} {c1 c2 c3 c4 : Ct} (a1 : AgAt K C H v1 (.c c1)) (a2 : AgAt K C H v2 (.c c2)) (a3 : AgAt K C H v3 (.c c3)) (a4 : AgAt K C H v4 (.c c4)) (ho : [c1, c2, c3, c4].all (fun c => !c.own) = true := by rfl) (hl : 4 ≤ N.length := by decide) :
    Wd K C [] [] H H (L2.start N [v1, v2, v3, v4]) ([c1, c2, c3, c4] ++ List.replicate (N.length - 4) .u) := Wd.start (vs := [v1, v2, v3, v4]) (cs := [c1, c2, c3, c4]) ⟨a1, a2, a3, a4, True.intro⟩ ho hl
theorem AgAt.lent {ds : List PyData} (h : AgAt K C H v (.n ds)) : ∃ p, AgAt K C H v (.c (.s p ds)) := let ⟨p, xs, a, b, c⟩ := h; ⟨p, a, xs, b, c⟩
theorem ev_isiI {T : String} {b : Bool} {k : Int} (h : EvC K C te σ H (.d (.int k))) (hk : kitB "int" T = some b) : EvC K C (tCB (rIsi K) (tCons te (tCons (tC (.ty T)) tNil))) σ H (.d (.bool b)) := ev_isi h hk
theorem ev_isiT {T : String} {b : Bool} (h : EvC K C te σ H (.d (.tuple ds))) (hk : kitB "tuple" T = some b) : EvC K C (tCB (rIsi K) (tCons te (tCons (tC (.ty T)) tNil))) σ H (.d (.bool b)) := ev_isi h hk
variable {D : Ends}
theorem s_retD (w : Wd K C S G H0 H σ Γ) (h : EvC K C te σ H (.d d)) (k : ∀ v H1, Wd K C S G H0 H1 σ Γ → Td K H1 v d → D.rt v H1) : tRet te D σ H := s_ret w h k
theorem s_retQ {Q : VK} {nx : L2.St → Hp → Prop} {bk ct} (w : Wd K C [] G H0 H σ Γ) (q : ∀ v H', Same H0 H' → Td K H' v d → Q v H') (h : EvC K C te σ H (.d d)) : tRet te { nx := nx, rt := Q, bk := bk, ct := ct } σ H := s_ret w h fun v H1 w1 a => q v H1 w1.fr0 a
theorem s_retNQ {Q : VK} {nx : L2.St → Hp → Prop} {bk ct} (w : Wd K C [] G H0 H σ Γ) (q : ∀ p H', H0 p = none → Same H0 H' → CtAt K C H' (.ref p) (.l p ds) → Q (.ref p) H') (h : EvN K C te σ H ds) : tRet te { nx := nx, rt := Q, bk := bk, ct := ct } σ H := s_retN w h fun p H1 hp w1 a => q p H1 hp w1.fr0 a
variable {tu tw tz : TS}
theorem s_when (w : Wd K C S G H0 H σ Γ) {b : Bool} (h : EvT t σ H b) (h1 : b = true → ∀ H1, Wd K C S G H0 H1 σ Γ → tu { D with nx := tz D } σ H1) (h2 : b = false → ∀ H1, Wd K C S G H0 H1 σ Γ → tz D σ H1) : tSeq (tIfS t tu tNext) tz D σ H :=
  s_seq (s_if w h h1 h2)
theorem ev_varD (w : Wd K C S G H0 H σ Γ) (h : Γ[i]? = some (.d d)) : EvC K C (tVar i) σ H (.d d) := ev_var w h
theorem ev_varL {p : Addr} (w : Wd K C S G H0 H σ Γ) (h : Γ[i]? = some (.l p ds)) : EvC K C (tVar i) σ H (.l p ds) := ev_var w h
theorem ev_varS {p : Addr} (w : Wd K C S G H0 H σ Γ) (h : Γ[i]? = some (.s p ds)) : EvC K C (tVar i) σ H (.s p ds) := ev_var w h
theorem ev_varZ {p : Addr} (w : Wd K C S G H0 H σ Γ) (h : Γ[i]? = some (.z p ds)) : EvC K C (tVar i) σ H (.z p ds) := ev_var w h
theorem ev_varT {n : Int} {ps : List (Int × Int)} (w : Wd K C S G H0 H σ Γ) (h : Γ[i]? = some (.t n ps)) : EvC K C (tVar i) σ H (.t n ps) := ev_var w h
theorem ev_varH {p q : Addr} (w : Wd K C S G H0 H σ Γ) (h : Γ[i]? = some (.h p q)) : EvC K C (tVar i) σ H (.h p q) := ev_var w h
end Pt
namespace Pt
open PySem PySem.Spec PyProof.Rows L2
theorem walk_E {J : It} {n : Nat} {G : Hp → Prop} {Y : Nat → Hp → V → Hp → Prop} (w : Walk J n G Y) : Walk (ItE J) n G (fun i H v H' => ∃ T x, v = .ref T ∧ H T = none ∧ H' = upd H T (.tup [.int (i : Nat), x]) ∧ Y i H x H) :=
  ⟨w.goes, w.stops, fun i H _ _ lt g ⟨T, x, a, b, c, y⟩ => ⟨T, x, a, b, c, w.yields i H x H lt g y⟩⟩
section
variable {P : Program} {w : World} {K : PySem.W.Frag} {tg : Expr} {J : It} {it : Addr} {st : Nat → Heap → Prop}
variable {D : HO} {d : Addr} {o : Obj} {n : Nat} {keys vals : Nat → V → Prop} {es : Array DictEntry} {ep : Nat}
end
end Pt
namespace Pt
open PySem PySem.Spec PyProof.Rows L2
section
variable {X : Cx} {D : HO} {d : Addr} {o : Obj} {n : Nat} {keys vals : Nat → V → Prop} {pins : List (Addr × Obj)} {σ : L2.St} {H : Hp} {s : Shared} {tg : Expr} {R : It → Hp → Prop}
end
end Pt
namespace Pt
open PySem PySem.Spec PyProof.Rows L2
def firstOf {α : Type} (n : Nat) (f : Nat → Option α) : Option α := (List.range n).findSome? f
theorem firstOf_none {α : Type} {n : Nat} {f : Nat → Option α} (h : ∀ j, j < n → f j = none) : firstOf n f = none := by
  unfold firstOf
  rw [List.findSome?_eq_none_iff]
  intro x hx
  exact h x (List.mem_range.mp hx)
theorem firstOf_some {α : Type} {n k : Nat} {f : Nat → Option α} {x : α} (hk : k < n) (h : ∀ j, j < k → f j = none) (e : f k = some x) : firstOf n f = some x := by
  unfold firstOf
  have z : List.range n = List.range k ++ (k :: (List.range' (k + 1) (n - (k + 1)))) := by
    have e1 : n = k + (n - k) := by omega
    rw [List.range_eq_range', e1, ← List.range'_append_1, ← List.range_eq_range', show k + (n - k) - (k + 1) = n - k - 1 by omega]
    congr 1
    rw [show n - k = (n - k - 1) + 1 by omega, List.range'_succ]
    simp
  rw [z, List.findSome?_append]
  have z2 : (List.range k).findSome? f = none := firstOf_none h
  rw [z2, Option.none_or, List.findSome?_cons, e]
theorem firstOf_of_some {α : Type} {n : Nat} {f : Nat → Option α} {x : α} (h : firstOf n f = some x) : ∃ k, k < n ∧ (∀ j, j < k → f j = none) ∧ f k = some x := by
  induction n with
  | zero => simp [firstOf] at h
  | succ n ih =>
    unfold firstOf at h ih
    rw [List.range_succ, List.findSome?_append] at h
    cases e : (List.range n).findSome? f with
    | some y =>
      rw [e] at h
      obtain ⟨k, h1, h2, h3⟩ := ih (by rw [e]; exact h)
      exact ⟨k, by omega, h2, h3⟩
    | none =>
      rw [e, Option.none_or] at h
      refine ⟨n, by omega, fun j hj => ?_, ?_⟩
      · rw [List.findSome?_eq_none_iff] at e
        exact e j (List.mem_range.mpr hj)
      · cases q : f n with
        | none => simp [q] at h
        | some y => simp [q] at h; rw [h]
theorem firstOf_of_none {α : Type} {n : Nat} {f : Nat → Option α} (h : firstOf n f = none) : ∀ j, j < n → f j = none := fun j hj => by
  unfold firstOf at h
  rw [List.findSome?_eq_none_iff] at h
  exact h j (List.mem_range.mpr hj)
theorem firstOf_congr {α : Type} {n : Nat} {f g : Nat → Option α} (h : ∀ j, j < n → f j = g j) : firstOf n f = firstOf n g := by
  cases e : firstOf n f with
  | none => exact (firstOf_none fun j hj => by rw [← h j hj]; exact firstOf_of_none e j hj).symm
  | some x =>
    obtain ⟨k, h1, h2, h3⟩ := firstOf_of_some e
    exact (firstOf_some h1 (fun j hj => by rw [← h j (by omega)]; exact h2 j hj) (by rw [← h k h1]; exact h3)).symm
def rOwn (K : PySem.W.Frag) (C : Addr) (sp : Sp) (E : XK) : R2 := fun x y H Q => ∃ a dx fs, x = .ref a ∧ H a = some (.ins C dx fs) ∧
  ((∃ b dy gs, y = .ref b ∧ H b = some (.ins C dy gs)) ∨ (PySem.W.notFirst K C (.type "tuple") = true ∧ ∃ b ys, y = .ref b ∧ SqF H b ys)) ∧ sp [x, y] H (fun v H' => (∃ k, v = .bl k) ∧ Q v H') E
theorem op_own {X : Cx} {CX : CXT} {n : Nat} {C f : Addr} {fd : FuncData} {ps : List Str} {sp : Sp} {E : XK} {K : PySem.W.Frag} (hK : X.K = K) (F : FnOk X.prog X.w X.K X.mg X.base CX n f fd ps sp) (hr : Room n X.A)
    (hs : PySem.W.findIn X.K (.ref C) "__eq__" = some (some (.ref f))) (hf : PySem.W.isFn X.K (.ref f) = true) (hb : Binds X.K fd ps []) (hx : Passes CX X E) : OpR X (compareOp .Eq) (rOwn K C sp E) := by
  subst hK
  intro pins s σ H x y u v Q I rx ry d
  obtain ⟨a, dx, fs, rfl, ha, hy, hsp⟩ := d
  cases rx
  obtain ⟨mA, J, _⟩ := ins_get I.hok ha
  obtain ⟨od, J, _⟩ := J.look
  obtain ⟨m, hF⟩ := I.fr
  have ty : ∃ tb, PySem.W.Looks (model X.prog X.w) s.heap (typeOf v) tb ∧ PySem.W.notFirst X.K C tb = true := by
    rcases hy with ⟨b, dy, gs, rfl, hb'⟩ | ⟨nf, b, ys, rfl, o, eo, _⟩
    · cases ry
      obtain ⟨mB, J', _⟩ := ins_get I.hok hb'
      obtain ⟨od', J', _⟩ := J'.look
      exact ⟨_, J'.type, by simp [PySem.W.notFirst]⟩
    · cases ry
      obtain ⟨e1, _, its, _, o', e2, hc, _⟩ := I.hok b _ eo
      have z : PySem.W.Looks (model X.prog X.w) s.heap (typeOf (.ref b)) o'.cls := (PySem.W.Looks.ld e2).andThen .now
      rw [hc] at z
      exact ⟨_, z, nf⟩
  obtain ⟨tb, h1, h2⟩ := ty
  show wpAny (model X.prog X.w) X.A (richCompare .Eq (.ref a) v) (EP X pins σ Q) X.xe s
  refine PySem.W.cmp_K (op := .Eq) (tb := tb) hr.units0 hF I.ok.mod.kin J h1 h2 hs hf ?_
  have hl := F.len _ _ _ _ hsp
  have r2 : Vals [V.ref a, y] [Value.ref a, v] := .cons rfl (.cons ry .nil)
  refine wpAny_call (codeAny_mono (F.run X.A X.stack s H ⟨[.ref a, v], []⟩ [.ref a, v] [.ref a, y] _ E hr I.env0 (by
    have := hb s [.ref a, v] I.kIn (by simpa using hl)
    simpa using this) r2 hsp) fun r s' hq => ?_)
  cases r with
  | error e => exact hx pins σ H s e s' I hq
  | ok fl =>
    cases fl with
    | ret w =>
      obtain ⟨z, H', I', rz, ⟨k, ez⟩, q⟩ := I.after hq
      subst ez
      cases rz
      exact ⟨.bl k, H', I', rfl, q⟩
    | next => exact False.elim hq
    | brk => exact False.elim hq
    | cont => exact False.elim hq
variable {K : PySem.W.Frag} {C : Addr} {H H' H1 H2 : Hp} {v w x y : V} {vs : List V} {d e : PyData} {ds es : List PyData}
variable {S : List Addr} {G : List (V × PyData)} {H0 : Hp} {σ : L2.St} {Γ : List Ct} {i j : Nat} {c : Ct} {te ta tb tc tl : TE} {t u : TT}
structure InsK (K : PySem.W.Frag) (C : Addr) : Prop extends C8.InsC K C where
  nt : PySem.W.kitOne K (.type "tuple") (.ref C) = some false
theorem ev_isiTr {n : Int} {ps : List (Int × Int)} (ic : InsK K C) (h : EvC K C te σ H (.t n ps)) : EvC K C (tCB (rIsi K) (tCons te (tCons (tC (.ref C)) tNil))) σ H (.d (.bool true)) := fun H1 e1 Q q =>
  h H1 e1 _ fun v H2 e2 a => by
    obtain ⟨p, dx, r, rfl, h1, h2⟩ := a
    exact ⟨.ref p, .ref C, _, _, true, rfl, .own C, .base (.ins h1 ic.cl ic.ha ic.hn ic.htk ic.hm), ic.me, q _ H2 e2 (.bl true)⟩
theorem ev_isiTu (ic : InsK K C) (h : EvC K C te σ H (.d (.tuple ds))) : EvC K C (tCB (rIsi K) (tCons te (tCons (tC (.ref C)) tNil))) σ H (.d (.bool false)) := fun H1 e1 Q q =>
  h H1 e1 _ fun v H2 e2 a => ⟨v, .ref C, _, _, false, rfl, .own C, Td.ty a, ic.nt, q _ H2 e2 (.bl false)⟩
theorem ev_ownT {A : List Ag → PyData → Prop} {E : XK} {n m : Int} {ps qs : List (Int × Int)} {b : Bool} (ha : EvC K C ta σ H (.t n ps)) (hb : EvC K C tb σ H (.t m qs)) (hA : A [.c (.t n ps), .c (.t m qs)] (.bool b)) :
    EvC K C (tOp (rOwn K C (spC K C A) E) ta tb) σ H (.d (.bool b)) := ev_op2 ha hb fun H1 _ x y a1 a2 Q q => by
  obtain ⟨p, dx, r, rfl, h1, h2⟩ := id a1
  obtain ⟨p', dx', r', rfl, h1', h2'⟩ := id a2
  exact ⟨p, dx, _, rfl, h1, .inl ⟨p', dx', _, rfl, h1'⟩, [.c (.t n ps), .c (.t m qs)], .bool b, ⟨a1, a2, True.intro⟩, hA, fun v H' e t => ⟨⟨b, t.bl_of⟩, q v H' e t⟩⟩
theorem ev_ownD {A : List Ag → PyData → Prop} {E : XK} {n : Int} {ps : List (Int × Int)} {b : Bool} (nf : PySem.W.notFirst K C (.type "tuple") = true) (ha : EvC K C ta σ H (.t n ps)) (hb : EvC K C tb σ H (.d (.tuple ds))) (hA : A [.c (.t n ps), .c (.d (.tuple ds))] (.bool b)) :
    EvC K C (tOp (rOwn K C (spC K C A) E) ta tb) σ H (.d (.bool b)) := ev_op2 ha hb fun H1 _ x y a1 a2 Q q => by
  obtain ⟨p, dx, r, rfl, h1, h2⟩ := id a1
  obtain ⟨p', xs, rfl, s, _⟩ := Td.tup_of a2
  exact ⟨p, dx, _, rfl, h1, .inr ⟨nf, p', xs, rfl, s⟩, [.c (.t n ps), .c (.d (.tuple ds))], .bool b, ⟨a1, a2, True.intro⟩, hA, fun v H' e t => ⟨⟨b, t.bl_of⟩, q v H' e t⟩⟩
theorem kept_all {α : Type} (g : α → PyData) (l : List α) : kept (fun _ => true) g l = l.map g := by
  unfold kept
  rw [List.filter_eq_self.mpr (fun _ _ => rfl)]
variable {D : Ends} {tu tw tz : TS}
theorem q_asg (w : Wd K C S G H0 H σ Γ) (h : EvC K C te σ H c) (k : ∀ v σ1 H1, CtAt K C H1 v c → Wd K C S G H0 H1 σ1 (Γ.set i c) → tz D σ1 H1) (ha : c.adr = [] := by rfl) : tSeq (tAsg te (gName i)) tz D σ H := s_asg (D := { D with nx := tz D }) w h k ha
theorem q_asgD (w : Wd K C S G H0 H σ Γ) (h : EvC K C te σ H (.d d)) (k : ∀ σ1 H1, Wd K C S G H0 H1 σ1 (Γ.set i (.d d)) → tz D σ1 H1) : tSeq (tAsg te (gName i)) tz D σ H := s_asg (D := { D with nx := tz D }) w h (fun _ σ1 H1 _ w1 => k σ1 H1 w1)
theorem q_asgN (w : Wd K C S G H0 H σ Γ) (h : EvN K C te σ H ds) (k : ∀ p σ1 H1, H0 p = none → Wd K C S G H0 H1 σ1 (Γ.set i (.l p ds)) → tz D σ1 H1) : tSeq (tAsg te (gName i)) tz D σ H := s_asgN (D := { D with nx := tz D }) w h k
theorem q_if (w : Wd K C S G H0 H σ Γ) {b : Bool} (h : EvT t σ H b) (h1 : b = true → ∀ H1, Wd K C S G H0 H1 σ Γ → tu { D with nx := tz D } σ H1) (h2 : b = false → ∀ H1, Wd K C S G H0 H1 σ Γ → tw { D with nx := tz D } σ H1) : tSeq (tIfS t tu tw) tz D σ H := s_if (D := { D with nx := tz D }) w h h1 h2
theorem q_drop (w : Wd K C S G H0 H σ Γ) (h : EvC K C te σ H c) (k : ∀ H1, Wd K C S G H0 H1 σ Γ → tz D σ H1) : tSeq (tDrop te) tz D σ H := s_drop (D := { D with nx := tz D }) w h k
theorem q_app (w : Wd K C S G H0 H σ Γ) {p : Addr} (hi : Γ[i]? = some (.l p ds)) (h : EvC K C te σ H (.d d)) (hz : ds.length < 10000000) (k : ∀ H1, Wd K C S G H0 H1 σ (Γ.set i (.l p (ds ++ [d]))) → tz D σ H1) :
    tSeq (tDrop (tBM K "list" rAppend (tVar i) (tCons te tNil))) tz D σ H := s_app (D := { D with nx := tz D }) w hi h hz k
theorem q_forR1 (w : Wd K C S G H0 H σ Γ) {n : Int} {ts : TA} (h : EvA K C ts σ H [.c (.d (.int n))]) (hn : n ≤ 10000000 ∧ -10000000 ≤ n) (Pv : Nat → L2.St → Hp → Prop) (h0 : ∀ H1, Wd K C S G H0 H1 σ Γ → Pv 0 σ H1)
    (hs : ∀ (k : Nat) σ' H', (k : Int) < n → Pv k σ' H' → tu { D with nx := Pv (k + 1), ct := Pv (k + 1), bk := tz D } (σ'.set j (some (.int (k : Int)))) H') (hd : ∀ σ' H', Pv n.toNat σ' H' → tz D σ' H') : tSeq (tFor (iRng1 ts) (gName j) tu) tz D σ H :=
  s_forR1 (D := { D with nx := tz D }) w h hn Pv h0 hs hd
theorem q_forR2 (w : Wd K C S G H0 H σ Γ) {lo n : Int} {ts : TA} (h : EvA K C ts σ H [.c (.d (.int lo)), .c (.d (.int n))]) (hn : n ≤ 10000000 ∧ -10000000 ≤ n ∧ -10000000 ≤ lo ∧ lo ≤ 10000000) (Pv : Nat → L2.St → Hp → Prop) (h0 : ∀ H1, Wd K C S G H0 H1 σ Γ → Pv 0 σ H1)
    (hs : ∀ (k : Nat) σ' H', lo + (k : Int) < n → Pv k σ' H' → tu { D with nx := Pv (k + 1), ct := Pv (k + 1), bk := tz D } (σ'.set j (some (.int (lo + (k : Int))))) H') (hd : ∀ σ' H', Pv (n - lo).toNat σ' H' → tz D σ' H') : tSeq (tFor (iRng2 ts) (gName j) tu) tz D σ H :=
  s_forR2 (D := { D with nx := tz D }) w h hn Pv h0 hs hd
theorem q_forR3 (w : Wd K C S G H0 H σ Γ) {lo n : Int} {ts : TA} (h : EvA K C ts σ H [.c (.d (.int lo)), .c (.d (.int n)), .c (.d (.int (-1)))]) (hn : n ≤ 10000000 ∧ -10000000 ≤ n ∧ -10000000 ≤ lo ∧ lo ≤ 10000000) (Pv : Nat → L2.St → Hp → Prop) (h0 : ∀ H1, Wd K C S G H0 H1 σ Γ → Pv 0 σ H1)
    (hs : ∀ (k : Nat) σ' H', n < lo - (k : Int) → Pv k σ' H' → tu { D with nx := Pv (k + 1), ct := Pv (k + 1), bk := tz D } (σ'.set j (some (.int (lo - (k : Int))))) H') (hd : ∀ σ' H', Pv (lo - n).toNat σ' H' → tz D σ' H') : tSeq (tFor (iRng3 ts) (gName j) tu) tz D σ H :=
  s_forR3 (D := { D with nx := tz D }) w h hn Pv h0 hs hd
theorem q_forT {g : TG} (w : Wd K C S G H0 H σ Γ) (h : EvC K C tl σ H (.d (.tuple ds))) (Pv : Addr → Nat → L2.St → Hp → Prop) (h0 : ∀ a H1, Wd K C S ((.ref a, .tuple ds) :: G) H0 H1 σ Γ → Pv a 0 σ H1)
    (hw : ∀ a k σ' H', Pv a k σ' H' → Td K H' (.ref a) (.tuple ds))
    (hs : ∀ a k d v σ' H', ds[k]? = some d → Td K H' v d → Pv a k σ' H' → g v σ' H' fun σ2 H2 => tu { D with nx := Pv a (k + 1), ct := Pv a (k + 1), bk := tz D } σ2 H2) (hd : ∀ a σ' H', Pv a ds.length σ' H' → tz D σ' H') : tSeq (tFor (iTup K tl) g tu) tz D σ H :=
  s_forT (D := { D with nx := tz D }) w h Pv h0 hw hs hd
theorem q_forL {g : TG} {p : Addr} (w : Wd K C S G H0 H σ Γ) (h : EvC K C tl σ H (.l p ds)) (Pv : Nat → L2.St → Hp → Prop) (h0 : ∀ H1, Wd K C S G H0 H1 σ Γ → Pv 0 σ H1)
    (hw : ∀ k σ' H', Pv k σ' H' → ∃ xs, H' p = some (.lst xs) ∧ TdAll K H' xs ds)
    (hs : ∀ k d v σ' H', ds[k]? = some d → Td K H' v d → Pv k σ' H' → g v σ' H' fun σ2 H2 => tu { D with nx := Pv (k + 1), ct := Pv (k + 1), bk := tz D } σ2 H2) (hd : ∀ σ' H', Pv ds.length σ' H' → tz D σ' H') : tSeq (tFor (iList K tl) g tu) tz D σ H :=
  s_forL (D := { D with nx := tz D }) w h Pv h0 hw hs hd
def gPair (K : PySem.W.Frag) (i j : Nat) : TG := gTup K 2 (gCons (gName i) (gCons (gName j) gNil))
theorem walkE {a : Addr} {D : Ends} {i j : Nat} (Pv : Nat → L2.St → Hp → Prop) (h0 : Pv 0 σ H) (hw : ∀ k σ' H', Pv k σ' H' → Td K H' (.ref a) (.tuple ds))
    (hs : ∀ k d v σ' H' H2, ds[k]? = some d → Td K H2 v d → Pv k σ' H' → Same H' H2 → tu { D with nx := Pv (k + 1), ct := Pv (k + 1), bk := D.nx } ((σ'.set i (some (.int (k : Nat)))).set j (some v)) H2) (hd : ∀ σ' H', Pv ds.length σ' H' → D.nx σ' H') : Turns (Itet K a) (gTup K 2 (gCons (gName i) (gCons (gName j) gNil))) tu D σ H :=
  for_it (walk_E told_T) Pv h0 (fun k σ' H' _ p => hw k σ' H' p) (fun k v σ' H1 H' _ p ⟨T, x, ev, nT, eH, _, d, at_, t⟩ => by
    subst ev eH
    exact ⟨T, _, rfl, SqT.of upd_same, rfl, .int (k : Nat), [x], rfl, x, [], rfl, rfl, hs k d x σ' H1 _ at_ (Td.mono (.of (same_new nT)) _ _ t) p (same_new nT)⟩) hd
theorem q_forE {i j : Nat} (w : Wd K C S G H0 H σ Γ) (h : EvC K C tl σ H (.d (.tuple ds))) (Pv : Addr → Nat → L2.St → Hp → Prop) (h0 : ∀ a H1, Wd K C S ((.ref a, .tuple ds) :: G) H0 H1 σ Γ → Pv a 0 σ H1)
    (hw : ∀ a k σ' H', Pv a k σ' H' → Td K H' (.ref a) (.tuple ds))
    (hs : ∀ a k d v σ' H' H2, ds[k]? = some d → Td K H2 v d → Pv a k σ' H' → Same H' H2 → tu { D with nx := Pv a (k + 1), ct := Pv a (k + 1), bk := tz D } ((σ'.set i (some (.int (k : Nat)))).set j (some v)) H2) (hd : ∀ a σ' H', Pv a ds.length σ' H' → tz D σ' H') :
    tSeq (tFor (iEnumT K (tCons tl tNil)) (gTup K 2 (gCons (gName i) (gCons (gName j) gNil))) tu) tz D σ H :=
  s_seq (h H (Same.refl H) _ fun v H1 e a => by
    obtain ⟨p, xs, rfl, s, t⟩ := Td.tup_of a
    exact ⟨p, xs, rfl, s.sq, walkE (D := { D with nx := tz D }) (Pv p) (h0 p H1 ((w.mono e).ghost a)) (hw p) (hs p) (hd p)⟩)
theorem s_forE {i j : Nat} (w : Wd K C S G H0 H σ Γ) (h : EvC K C tl σ H (.d (.tuple ds))) (Pv : Addr → Nat → L2.St → Hp → Prop) (h0 : ∀ a H1, Wd K C S ((.ref a, .tuple ds) :: G) H0 H1 σ Γ → Pv a 0 σ H1)
    (hw : ∀ a k σ' H', Pv a k σ' H' → Td K H' (.ref a) (.tuple ds))
    (hs : ∀ a k d v σ' H' H2, ds[k]? = some d → Td K H2 v d → Pv a k σ' H' → Same H' H2 → tu { D with nx := Pv a (k + 1), ct := Pv a (k + 1), bk := D.nx } ((σ'.set i (some (.int (k : Nat)))).set j (some v)) H2) (hd : ∀ a σ' H', Pv a ds.length σ' H' → D.nx σ' H') :
    tFor (iEnumT K (tCons tl tNil)) (gTup K 2 (gCons (gName i) (gCons (gName j) gNil))) tu D σ H :=
  h H (Same.refl H) _ fun v H1 e a => by
    obtain ⟨p, xs, rfl, s, t⟩ := Td.tup_of a
    exact ⟨p, xs, rfl, s.sq, walkE (Pv p) (h0 p H1 ((w.mono e).ghost a)) (hw p) (hs p) (hd p)⟩
theorem pi_enumTK (K : PySem.W.Frag) {X : Cx} {e : Expr} {ta : TA} {p pos tpos : Pos} {elts : List Expr} {kk : Nat} (hg : Gl X "enumerate") (hm : X.mg "enumerate" = none) (ha : PA X [e] ta) (hK : X.K = K := by rfl) (hs : starEach [e] X.env = [(false, eval e X.env)] := by rfl) :
    PI X (.Tuple elts kk tpos) (.Call (.Name "enumerate" p) [e] [] pos) (iEnumT K ta) := hK ▸ pi_enumT hg hm ha hs
theorem pg_tupK (K : PySem.W.Frag) {X : Cx} {pos : Pos} {es : List Expr} {k : Nat} {t : TGs} {n : Nat} (hc : X.calm = true) (h : PGs X es t) (hK : X.K = K := by rfl)
    (hn : (assignEach es X.env).length = n := by rfl) (hst : (assignEach es X.env).findIdx? (·.1) = none := by rfl) : PG X (.Tuple es k pos) (gTup K n t) := hK ▸ pg_tup hc h hn hst
theorem ev_index3 {p : Addr} {l : List Int} {k : Int} {a m : Nat} (ha : EvC K C ta σ H (.l p (iL l))) (hb : EvC K C tb σ H (.d (.int k))) (hc : EvC K C tc σ H (.d (.int (a : Nat)))) (h1 : a ≤ m) (h2 : l[m]? = some k) (h3 : ∀ q, a ≤ q → q < m → l[q]? ≠ some k) :
    EvC K C (tBM K "list" (rIdx3 K) ta (tCons tb (tCons tc tNil))) σ H (.d (.int (m : Nat))) := fun H1 e1 Q q =>
  ha H1 e1 _ fun v H2 e2 a2 => by
    obtain ⟨rfl, xs, s, t⟩ := a2
    have ex := t.iL_of
    subst ex
    refine ⟨.inl ⟨rfl, _, SqL.of s⟩, hb H2 (e1.trans e2) _ fun y H3 e3 b3 => hc H3 ((e1.trans e2).trans e3) _ fun z H4 e4 c4 => ⟨p, l, k, a, m, rfl, ?_, SqL.of (e4 _ _ (e3 _ _ s)), h1, h2, h3, q _ H4 ((e2.trans e3).trans e4) (.int _)⟩⟩
    rw [Td.int_of b3, Td.int_of c4]
def rIns : V → List V → Hp → VK → Prop := fun x vs H Q => ∃ (l : Addr) (xs : List V) (i : Int) (y : V), x = .ref l ∧ vs = [.int i, y] ∧ H l = some (.lst xs) ∧ xs.length < sizeLine ∧ 0 ≤ i ∧ i < 2 ^ 63 ∧
  Q .non (upd H l (.lst (xs.take i.toNat ++ [y] ++ xs.drop i.toNat)))
theorem mt_ins {X : Cx} : MtR X "list.insert" rIns := mt_insert
theorem s_insPop {p : Addr} {a b r s : Nat} (w : Wd K C S G H0 H σ Γ) (hi : Γ[i]? = some (.l p ds)) (ha : Γ[a]? = some (.d (.int (r : Nat)))) (hb : Γ[b]? = some (.d (.int (s : Nat)))) (hd : ds[s]? = some d) (hr : r ≤ 10000000) (hl : ds.length < 10000000)
    (k : ∀ H1, Wd K C S G H0 H1 σ (Γ.set i (.l p ((ds.eraseIdx s).take r ++ [d] ++ (ds.eraseIdx s).drop r))) → D.nx σ H1) :
    tDrop (tBM K "list" rIns (tVar i) (tCons (tVar a) (tCons (tBM K "list" rPopAt (tVar i) (tCons (tVar b) tNil)) tNil))) D σ H := by
  obtain ⟨v, e1, rfl, xs, e2, e3⟩ := w.get hi
  obtain ⟨va, ea, ta⟩ := w.get ha
  obtain ⟨vb, eb, tb⟩ := w.get hb
  rw [Td.int_of ta] at ea
  rw [Td.int_of tb] at eb
  obtain ⟨y, hy, ty⟩ := e3.get hd
  have hs : s < xs.length := (List.getElem?_eq_some_iff.mp hy).1
  have hz : sizeLine = 16777216 := sizeLine_eq
  have hlen := e3.length
  have he : (xs.eraseIdx s).length + 1 = xs.length := by rw [List.length_eraseIdx_of_lt hs]; omega
  refine ⟨.ref p, e1, .inl ⟨rfl, xs, SqL.of e2⟩, .int (r : Nat), ea, .ref p, e1, .inl ⟨rfl, xs, SqL.of e2⟩, .int (s : Nat), eb, p, xs, (s : Nat), s, y, rfl, rfl, e2, by omega, by omega, ?_, hy, ?_⟩
  · exact (ixN_seq (n := xs.length) (by unfold ixN; rw [if_pos (by omega), if_pos (by omega)]; simp)).1
  · refine ⟨p, xs.eraseIdx s, (r : Nat), y, rfl, rfl, upd_same, by omega, by omega, by omega, ?_⟩
    rw [upd_upd]
    have f : TdAll K H ((xs.eraseIdx s).take r ++ [y] ++ (xs.eraseIdx s).drop r) ((ds.eraseIdx s).take r ++ [d] ++ (ds.eraseIdx s).drop r) := (((e3.erase s).take r).append (.cons ty .nil)).append ((e3.erase s).drop r)
    exact k _ (w.chg hi f)
theorem ev_allK {α : Type} {f : α → Bool} {l : List α} (h : EvN K C te σ H (kept (fun _ => true) (fun x => PyData.bool (f x)) l)) : EvC K C (tCB (rAll K) (tCons te tNil)) σ H (.d (.bool (l.all f))) := by
  have e : kept (fun _ => true) (fun x => PyData.bool (f x)) l = (l.map f).map .bool := by
    rw [kept_all, List.map_map]
    rfl
  rw [e] at h
  have z := ev_allN h
  rw [List.all_map] at z
  exact z
theorem ev_un1 {k : Int} (h : EvC K C te σ H (.d (.int k))) : EvC K C (tUn (rU fun i => .int (-i)) te) σ H (.d (.int (-k))) := fun H1 e1 Q q =>
  h H1 e1 _ fun v H2 e2 a => ⟨k, Td.int_of a, q _ H2 e2 (.int _)⟩
end Pt
namespace Pt
open PySem PySem.Spec PyProof.Rows L2
variable {K : PySem.W.Frag} {C : Addr} {H H' H1 H2 : Hp} {v w x y : V} {vs : List V} {d e : PyData} {ds es : List PyData}
variable {S : List Addr} {G : List (V × PyData)} {H0 : Hp} {σ : L2.St} {Γ : List Ct} {i j k : Nat} {c : Ct} {te ta tb tc tl : TE} {t u : TT}
variable {D : Ends} {tu tw tz : TS}
theorem q_parNN (w : Wd K C S G H0 H σ Γ) (ha : EvN K C ta σ H ds) (hb : EvN K C tb σ H es) (k : ∀ p q σ1 H1, Wd K C S G H0 H1 σ1 ((Γ.set i (.l p ds)).set j (.l q es)) → tz D σ1 H1) : tSeq (tPar i j (tCons ta (tCons tb tNil))) tz D σ H :=
  ha H (Same.refl H) _ fun p H1 hp e1 a1 => hb H1 e1 _ fun q H2 hq e2 a2 => ⟨.ref p, .ref q, rfl, k p q _ H2 ((w.setN i e1 hp a1).setN j e2 hq a2)⟩
theorem q_parND (w : Wd K C S G H0 H σ Γ) (ha : EvN K C ta σ H ds) (hb : EvC K C tb σ H (.d d)) (k : ∀ p σ1 H1, H0 p = none → Wd K C S G H0 H1 σ1 ((Γ.set i (.l p ds)).set j (.d d)) → tz D σ1 H1) : tSeq (tPar i j (tCons ta (tCons tb tNil))) tz D σ H :=
  ha H (Same.refl H) _ fun p H1 hp e1 a1 => hb H1 e1 _ fun v H2 e2 a2 => ⟨.ref p, v, rfl, k p _ H2 (w.fresh0 hp) (((w.setN i e1 hp a1).mono e2).set j a2)⟩
theorem q_unpNN (w : Wd K C S G H0 H σ Γ) (ha : EvN K C ta σ H ds) (hb : EvN K C tb σ H es) (k : ∀ p q σ1 H1, Wd K C S G H0 H1 σ1 ((Γ.set i (.l p ds)).set j (.l q es)) → tz D σ1 H1) : tSeq (tAsg (tTupF (tCons ta (tCons tb tNil))) (gTup K 2 (gCons (gName i) (gCons (gName j) gNil)))) tz D σ H :=
  ha H (Same.refl H) _ fun p H1 hp e1 a1 => hb H1 e1 _ fun q H2 hq e2 a2 => ⟨by show 2 ≤ sizeLine; decide, fun T o hT ho => ⟨T, _, rfl, (show SqF _ T _ from ⟨o, upd_same, ho⟩).sq, rfl, .ref p, [.ref q], rfl, .ref q, [], rfl, rfl, k p q _ _ (((w.setN i e1 hp a1).setN j e2 hq a2).mono (same_new hT))⟩⟩
theorem shaped_list (l : List Int) : SeqAt.shaped (.list (iL l)) = true := by
  show ((PyData.list (iL l)).canLay0 && decide ((PyData.list (iL l)).depth ≤ 64)) = true
  have h1 := depth_iL l
  rw [Bool.and_eq_true]
  refine ⟨?_, decide_eq_true ?_⟩
  · simp only [PyData.canLay0]; exact lay_iL l
  · simp only [PyData.depth]; omega
theorem eqv_list (a b : List Int) : PyData.eqv (.list (iL a)) (.list (iL b)) = decide (a = b) := by
  simp only [PyData.eqv]
  exact eqv_iL a b
theorem ev_neL {p q : Addr} {k j : List Int} (ha : EvC K C ta σ H (.l p (iL k))) (hb : EvC K C tb σ H (.l q (iL j))) : EvC K C (tOp (rNeD K) ta tb) σ H (.d (.bool (!decide (k = j)))) :=
  eqv_list k j ▸ ev_op2 ha hb fun H1 _ x y a1 a2 Q q => by
    obtain ⟨rfl, xs, s, t⟩ := a1
    obtain ⟨rfl, ys, s', t'⟩ := a2
    exact ⟨_, _, .lst (SqL.of s) (TdAll.dp _ _ t), .lst (SqL.of s') (TdAll.dp _ _ t'), shaped_list k, shaped_list j, q _ H1 (Same.refl H1) (.bl _)⟩
theorem ev_list0 {p : Addr} {k : List Int} (ha : EvC K C ta σ H (.l p (iL k))) : EvC K C ta σ H (.l p (iL k)) := ha
theorem atI0 {l : List PyData} (h : l.head? = some d) : atI l (0 : Int) = some d := by
  cases l with
  | nil => cases h
  | cons x l =>
    cases h
    exact atI_nat (j := 0) rfl
theorem kept_range_head {n m : Nat} {f : Nat → Bool} {g : Nat → PyData} (hm : m < n) (h0 : ∀ q, q < m → f q = false) (h1 : f m = true) : (kept f g (List.range n)).head? = some (g m) := by
  unfold kept
  have z : List.range n = List.range m ++ (m :: (List.range' (m + 1) (n - (m + 1)))) := by
    have e1 : n = m + (n - m) := by omega
    rw [List.range_eq_range', e1, ← List.range'_append_1, ← List.range_eq_range', show m + (n - m) - (m + 1) = n - m - 1 by omega]
    congr 1
    rw [show n - m = (n - m - 1) + 1 by omega, List.range'_succ]
    simp
  rw [z, List.filter_append, List.filter_eq_nil_iff.mpr (fun q hq => by rw [h0 q (List.mem_range.mp hq)]; exact Bool.false_ne_true), List.nil_append, List.filter_cons_of_pos h1]
  rfl
end Pt
namespace Pt
open PySem PySem.Spec PyProof.Rows L2
variable {K : PySem.W.Frag} {C : Addr} {H H' H1 H2 : Hp} {v w x y : V} {vs : List V} {d e : PyData} {ds es : List PyData}
variable {S : List Addr} {G : List (V × PyData)} {H0 : Hp} {σ : L2.St} {Γ : List Ct} {i j k : Nat} {c : Ct} {te ta tb tc tl : TE} {t u : TT}
variable {D : Ends} {tu tw tz : TS}
theorem en_lcN {α : Type} {l : List α} {mk : α → PyData} (w : Wd K C S G H0 H σ Γ) (hl : EvN K C tl σ H (l.map mk)) (f : α → Bool) (g : α → PyData) (hz : l.length < 10000000)
    (ht : ∀ x ∈ l, ∀ σ1 H1, Wd K C S G H0 H1 σ1 ((Γ.set j .u).set j (.d (mk x))) → EvT t σ1 H1 (f x)) (he : ∀ x ∈ l, ∀ σ1 H1, Wd K C S G H0 H1 σ1 ((Γ.set j .u).set j (.d (mk x))) → f x = true → EvC K C te σ1 H1 (.d (g x))) :
    EvN K C (tLc (iList K tl) (gName j) t te [j]) σ H (kept f g l) := fun H1 e1 Q q => hl H1 e1 _ fun p H2 hp e2 a => by
  have z : EvC K C (tC (.ref p)) σ H2 (.s p (l.map mk)) := fun H3 e3 Q q => q _ H3 (Same.refl H3) (CtAt.mono e3 (show CtAt K C H2 (.ref p) (.s p (l.map mk)) from a))
  exact en_lcS (te := te) (t := t) (w.mono (e1.trans e2)) z f g hz ht he H2 (Same.refl H2) Q fun p' H3 hp' e3 a3 => q p' H3 (e2.free hp') (e2.trans e3) a3
theorem cut_to {α : Type} (l : List α) (k : Nat) : cutD l none (some (k : Int)) = l.take k := by
  unfold cutD
  rw [HT.sIx_none, HT.sIx_nat, List.drop_zero, Nat.sub_zero]
  rcases Nat.le_total k l.length with h | h
  · rw [Nat.min_eq_left h]
  · rw [Nat.min_eq_right h, List.take_of_length_le h, List.take_length]
theorem cut_from {α : Type} (l : List α) (k : Nat) : cutD l (some (k : Int)) none = l.drop k := by
  unfold cutD
  rw [HT.sIx_none, HT.sIx_nat]
  rcases Nat.le_total k l.length with h | h
  · rw [Nat.min_eq_left h, List.take_of_length_le (by simp)]
  · rw [Nat.min_eq_right h, List.drop_length, List.drop_of_length_le h, List.take_nil]
theorem en_cast (h : EvN K C te σ H ds) (e : ds = es) : EvN K C te σ H es := e ▸ h
theorem s_asgD (w : Wd K C S G H0 H σ Γ) (h : EvC K C te σ H (.d d)) (k : ∀ σ1 H1, Wd K C S G H0 H1 σ1 (Γ.set i (.d d)) → D.nx σ1 H1) : tAsg te (gName i) D σ H := s_asg w h (fun _ σ1 H1 _ w1 => k σ1 H1 w1)
theorem walkS {a : Addr} {g : TG} {D : Ends} (Pv : Nat → L2.St → Hp → Prop) (h0 : Pv 0 σ H) (hw : ∀ k σ' H', Pv k σ' H' → ∃ xs, SqL K H' a xs ∧ TdAll K H' xs ds)
    (hs : ∀ k d v σ' H', ds[k]? = some d → Td K H' v d → Pv k σ' H' → g v σ' H' fun σ2 H2 => tu { D with nx := Pv (k + 1), ct := Pv (k + 1), bk := D.nx } σ2 H2) (hd : ∀ σ' H', Pv ds.length σ' H' → D.nx σ' H') : Turns (Itl K a) g tu D σ H := turns_nth told_L Pv h0 hw hs hd
theorem q_forZ {g : TG} {p : Addr} (w : Wd K C S G H0 H σ Γ) (h : EvC K C tl σ H (.z p ds)) (Pv : Nat → L2.St → Hp → Prop) (h0 : ∀ H1, Wd K C S G H0 H1 σ Γ → Pv 0 σ H1)
    (hw : ∀ k σ' H', Pv k σ' H' → ∃ xs, SqL K H' p xs ∧ TdAll K H' xs ds)
    (hs : ∀ k d v σ' H', ds[k]? = some d → Td K H' v d → Pv k σ' H' → g v σ' H' fun σ2 H2 => tu { D with nx := Pv (k + 1), ct := Pv (k + 1), bk := tz D } σ2 H2) (hd : ∀ σ' H', Pv ds.length σ' H' → tz D σ' H') : tSeq (tFor (iList K tl) g tu) tz D σ H :=
  s_seq (h H (Same.refl H) _ fun v H1 e a => by
    obtain ⟨rfl, xs, s, t⟩ := a
    exact ⟨p, rfl, ⟨xs, s.sq⟩, walkS (D := { D with nx := tz D }) Pv (h0 H1 (w.mono e)) hw hs hd⟩)
def Src (H : Hp) (p c : Addr) (s k : Int) (cells : List Int) : Prop := H p = some (.lst [.int s, .ref c, .int k]) ∧ H c = some (.lst (cells.map V.int)) ∧ p ≠ c ∧ cells.length ≤ 63
theorem Src.mono {p c : Addr} {s k : Int} {cells : List Int} (h : Src H p c s k cells) (e : Same H H') : Src H' p c s k cells := ⟨e _ _ h.1, e _ _ h.2.1, h.2.2⟩
theorem Src.ct {p c : Addr} {s k : Int} {cells : List Int} (h : Src H p c s k cells) : CtAt K C H (.ref p) (.h p c) := ⟨rfl, h.2.2.1, s, k, cells, h.1, h.2.1, h.2.2.2⟩
theorem src_ix {p c : Addr} {s k : Int} {cells : List Int} {u : V} {n : Nat} (h : Src H p c s k cells) (hi : σ[i]? = some (some (.ref p))) (hn : [V.int s, .ref c, .int k][n]? = some u) {d' : Ct} (hc : ∀ H1, Same H H1 → CtAt K C H1 u d') : EvC K C (tOp (rIx K) (tVar i) (tC (.int (n : Nat)))) σ H d' := fun H1 e1 Q q =>
  ⟨.ref p, hi, .inl ⟨p, _, (n : Nat), u, rfl, rfl, SqL.of (e1 _ _ h.1), atI_nat hn, q _ H1 (Same.refl H1) (hc H1 e1)⟩⟩
theorem src_s {p c : Addr} {s k : Int} {cells : List Int} (h : Src H p c s k cells) (hi : σ[i]? = some (some (.ref p))) : EvC K C (tOp (rIx K) (tVar i) (tC (.int 0))) σ H (.d (.int s)) := src_ix (n := 0) h hi rfl fun _ _ => .int s
theorem src_k {p c : Addr} {s k : Int} {cells : List Int} (h : Src H p c s k cells) (hi : σ[i]? = some (some (.ref p))) : EvC K C (tOp (rIx K) (tVar i) (tC (.int 2))) σ H (.d (.int k)) := src_ix (n := 2) h hi rfl fun _ _ => .int k
theorem src_c {p c : Addr} {s k : Int} {cells : List Int} (h : Src H p c s k cells) (hi : σ[i]? = some (some (.ref p))) : EvC K C (tOp (rIx K) (tVar i) (tC (.int 1))) σ H (.l c (iL cells)) := src_ix (n := 1) h hi rfl fun H1 e1 => ⟨rfl, _, e1 _ _ h.2.1, TdAll.of_iL cells⟩
def spH (K : PySem.W.Frag) (C : Addr) : Sp := fun vs H Q _ => ∃ (p c : Addr) (b : Int), vs = [.ref p, .int b] ∧ CtAt K C H (.ref p) (.h p c) ∧ 1 ≤ b ∧ b ≤ 1000000 ∧
  ∀ (r : Int) H', 0 ≤ r → r < b → Fr [p, c] H H' → CtAt K C H' (.ref p) (.h p c) → Q (.int r) H'
def spM (K : PySem.W.Frag) (C : Addr) : Sp := fun vs H Q _ => ∃ (z : Addr) (cells : List Int) (v1 : V) (k : Int), vs = [v1, .int k] ∧ CtAt K C H v1 (.z z (iL cells)) ∧ cells.length ≤ 63 ∧
  ∀ p c H', H p = none → H c = none → Same H H' → CtAt K C H' (.ref p) (.h p c) → Q (.ref p) H'
theorem ev_at {k : Int} (hi : σ[i]? = some (some (.int k))) : EvC K C (tVar i) σ H (.d (.int k)) := fun H1 _ Q q => ⟨.int k, hi, q _ H1 (Same.refl H1) (.int k)⟩
theorem ev_lstAt {c : Addr} {cells : List Int} (hi : σ[i]? = some (some (.ref c))) (h : H c = some (.lst (cells.map V.int))) : EvC K C (tVar i) σ H (.l c (iL cells)) := fun H1 e Q q => ⟨.ref c, hi, q _ H1 (Same.refl H1) ⟨rfl, _, e _ _ h, TdAll.of_iL cells⟩⟩
theorem Fr.updIn {T : List Addr} {p : Addr} {o : HO} (h : p ∈ T) : Fr T H (L2.upd H p o) := fun a u r n => by
  have z : a ≠ p := fun z => n (by rw [z]; exact h)
  rw [L2.upd_ne z]
  exact r
theorem ne_of_none' {a b : Addr} {o : HO} (h : H a = none) (h' : H b = some o) : a ≠ b := (ne_of_none h' h).symm
end Pt
namespace Pt
open PySem PySem.Spec PyProof.Rows L2
variable {K : PySem.W.Frag} {C : Addr} {H H' H1 H2 : Hp} {v w x y : V} {vs : List V} {d e : PyData} {ds es : List PyData}
variable {S : List Addr} {G : List (V × PyData)} {H0 : Hp} {σ : L2.St} {Γ : List Ct} {i j k : Nat} {c : Ct} {te ta tb tc tl : TE} {t u : TT}
variable {D : Ends} {tu tw tz : TS} {p q : Addr} {b : Int} {E : XK}
theorem dr_next (w : Wd K C S G H0 H σ Γ) (hi : Γ[i]? = some (.h p q)) (hb : EvC K C tb σ H (.d (.int b))) (h1 : 1 ≤ b) (h2 : b ≤ 1000000) {Q : VK} (k : ∀ (r : Int) H', 0 ≤ r → r < b → Wd K C S G H0 H' σ Γ → Q (.int r) H') :
    tCall (spH K C) [] E (tCons (tVar i) (tCons tb tNil)) σ H Q := by
  obtain ⟨v, e, a⟩ := w.get hi
  obtain ⟨rfl, a'⟩ := id a
  refine ⟨.ref p, e, hb H (Same.refl H) _ fun y H2 e2 b2 => ⟨p, q, b, ?_, CtAt.mono e2 a, h1, h2, fun r H' r0 r1 f ct => k r H' r0 r1 ((w.mono e2).drawn hi f ct)⟩⟩
  rw [Td.int_of b2]
  rfl
theorem q_draw (w : Wd K C S G H0 H σ Γ) (hi : Γ[i]? = some (.h p q)) (hb : EvC K C tb σ H (.d (.int b))) (h1 : 1 ≤ b) (h2 : b ≤ 1000000) (k : ∀ (r : Int) σ1 H1, 0 ≤ r → r < b → Wd K C S G H0 H1 σ1 (Γ.set j (.d (.int r))) → tz D σ1 H1) :
    tSeq (tAsg (tCall (spH K C) [] E (tCons (tVar i) (tCons tb tNil))) (gName j)) tz D σ H :=
  dr_next w hi hb h1 h2 fun r H' r0 r1 w1 => k r _ H' r0 r1 (w1.set j (.int r))
def DrT (K : PySem.W.Frag) (C : Addr) (S : List Addr) (G : List (V × PyData)) (H0 : Hp) (σ : L2.St) (Γ : List Ct) (t : TT) : Prop := ∀ H, Wd K C S G H0 H σ Γ → ∀ Q : Bool → Hp → Prop, (∀ b H', Wd K C S G H0 H' σ Γ → Q b H') → t σ H Q
theorem dt_of {b : Bool} (h : ∀ H, Wd K C S G H0 H σ Γ → EvT t σ H b) : DrT K C S G H0 σ Γ t := fun H w Q q => h H w H (Same.refl H) _ fun H2 e2 => q b H2 (w.mono e2)
theorem dt_or (h1 : DrT K C S G H0 σ Γ t) (h2 : DrT K C S G H0 σ Γ u) : DrT K C S G H0 σ Γ (tOr t u) := fun H w Q q => h1 H w _ fun b H2 w2 => by
  cases b with
  | true => exact q true H2 w2
  | false => exact h2 H2 w2 Q q
theorem dt_and (h1 : DrT K C S G H0 σ Γ t) (h2 : DrT K C S G H0 σ Γ u) : DrT K C S G H0 σ Γ (tAnd t u) := fun H w Q q => h1 H w _ fun b H2 w2 => by
  cases b with
  | true => exact h2 H2 w2 Q q
  | false => exact q false H2 w2
theorem dt_eqN {m : Int} (hi : Γ[i]? = some (.h p q)) (h1 : 1 ≤ b) (h2 : b ≤ 1000000) : DrT K C S G H0 σ Γ (tTest (tOp (rEqD K) (tCall (spH K C) [] E (tCons (tVar i) (tCons (tC (.int b)) tNil))) (tC (.int m)))) := fun H w Q k =>
  dr_next w hi ev_int h1 h2 fun r H' r0 r1 w1 => ⟨.int r, .int m, .int r, .int m, shaped_int r, shaped_int m, _, rfl, k _ H' w1⟩
theorem q_ifD (w : Wd K C S G H0 H σ Γ) (h : DrT K C S G H0 σ Γ t) (h1 : ∀ H1, Wd K C S G H0 H1 σ Γ → tu { D with nx := tz D } σ H1) (h2 : ∀ H1, Wd K C S G H0 H1 σ Γ → tw { D with nx := tz D } σ H1) : tSeq (tIfS t tu tw) tz D σ H := h H w _ fun b H1 w1 => by
  cases b with
  | true => exact h1 H1 w1
  | false => exact h2 H1 w1
theorem q_ifDR (w : Wd K C S G H0 H σ Γ) (h : DrT K C S G H0 σ Γ t) (R : L2.St → Hp → Prop) (hR : ∀ σ H, R σ H → tz D σ H) (h1 : (∀ σ H, R σ H → tz D σ H) → ∀ H1, Wd K C S G H0 H1 σ Γ → tu { D with nx := tz D } σ H1) (h2 : (∀ σ H, R σ H → tz D σ H) → ∀ H1, Wd K C S G H0 H1 σ Γ → tw { D with nx := tz D } σ H1) : tSeq (tIfS t tu tw) tz D σ H := q_ifD w h (h1 hR) (h2 hR)
theorem s_ifD (w : Wd K C S G H0 H σ Γ) (h : DrT K C S G H0 σ Γ t) (h1 : ∀ H1, Wd K C S G H0 H1 σ Γ → tu D σ H1) (h2 : ∀ H1, Wd K C S G H0 H1 σ Γ → tw D σ H1) : tIfS t tu tw D σ H := h H w _ fun b H1 w1 => by
  cases b with
  | true => exact h1 H1 w1
  | false => exact h2 H1 w1
def spDr (K : PySem.W.Frag) (C : Addr) (A : List Ag → Prop) (R : List Ag → PyData → Prop) : Sp := fun vs H Q _ => ∃ (p c : Addr) (ws : List V) (as : List Ag), vs = .ref p :: ws ∧ CtAt K C H (.ref p) (.h p c) ∧ Args K C H ws as ∧ A as ∧
  ∀ v d H', R as d → Fr [p, c] H H' → CtAt K C H' (.ref p) (.h p c) → Td K H' v d → Q v H'
theorem dr_call {A : List Ag → Prop} {R : List Ag → PyData → Prop} {as : List Ag} {ts : TA} (w : Wd K C S G H0 H σ Γ) (hi : Γ[i]? = some (.h p q)) (hs : EvA K C ts σ H as) (hA : A as) {Q : VK} (k : ∀ v d H', R as d → Wd K C S G H0 H' σ Γ → Td K H' v d → Q v H') :
    tCall (spDr K C A R) [] E (tCons (tVar i) ts) σ H Q := by
  obtain ⟨v, e, a⟩ := w.get hi
  obtain ⟨rfl, a'⟩ := id a
  exact ⟨.ref p, e, hs H (Same.refl H) _ fun ws H2 e2 b2 => ⟨p, q, ws, as, by rw [List.append_nil], CtAt.mono e2 a, b2, hA, fun v d H' r f ct td => k v d H' r ((w.mono e2).drawn hi f ct) td⟩⟩
theorem q_drawA {A : List Ag → Prop} {R : List Ag → PyData → Prop} {as : List Ag} {ts : TA} (w : Wd K C S G H0 H σ Γ) (hi : Γ[i]? = some (.h p q)) (hs : EvA K C ts σ H as) (hA : A as) (k : ∀ d σ1 H1, R as d → Wd K C S G H0 H1 σ1 (Γ.set j (.d d)) → tz D σ1 H1) :
    tSeq (tAsg (tCall (spDr K C A R) [] E (tCons (tVar i) ts)) (gName j)) tz D σ H :=
  dr_call w hi hs hA fun v d H' r w1 td => k d _ H' r (w1.set j td)
theorem s_retDr {R : List Ag → PyData → Prop} {as : List Ag} {Q : VK} {nx : L2.St → Hp → Prop} {bk ct} (w : Wd K C [p, q] G H0 H σ Γ) (hi : Γ[i]? = some (.h p q)) (k : ∀ v d H', R as d → Fr [p, q] H0 H' → CtAt K C H' (.ref p) (.h p q) → Td K H' v d → Q v H') (h : EvC K C te σ H (.d d)) (hR : R as d) : tRet te { nx := nx, rt := Q, bk := bk, ct := ct } σ H :=
  s_ret w h fun v H1 w1 a => by
    obtain ⟨v', _, a'⟩ := w1.get hi
    obtain ⟨rfl, _⟩ := id a'
    exact k v d H1 hR w1.fr a' a
theorem Wd.onlyH (w : Wd K C S G H0 H σ Γ) (hi : Γ[i]? = some (.h p q)) : Wd K C S G H0 H [some (.ref p), none] [.h p q, .u] := by
  obtain ⟨v, e, a⟩ := w.get hi
  obtain ⟨rfl, a'⟩ := id a
  have old : ∀ {j : Nat} {c : Ct}, [Ct.h p q, Ct.u][j]? = some c → (j = 0 ∧ c = .h p q) ∨ c = .u := fun {j c} h => by
    match j, h with
    | 0, h => cases h; exact .inl ⟨rfl, rfl⟩
    | 1, h => cases h; exact .inr rfl
  refine ⟨w.fr, w.sl, rfl, fun j c hj => ?_, fun j c hj => ?_, fun j k c1 c2 x h1 h2 m1 m2 => ?_, w.gh⟩
  · rcases old hj with ⟨rfl, rfl⟩ | rfl
    · exact ⟨.ref p, rfl, a⟩
    · exact True.intro
  · rcases old hj with ⟨rfl, rfl⟩ | rfl
    · exact w.wr i _ hi
    · intro z; cases z
  · rcases old h1 with ⟨rfl, rfl⟩ | rfl
    · rcases old h2 with ⟨rfl, rfl⟩ | rfl
      · exact .inl rfl
      · simp [Ct.adr] at m2
    · simp [Ct.adr] at m1
theorem q_parDr {m : Nat} (w : Wd K C S G H0 H σ Γ) (hi : Γ[m]? = some (.h p q)) (h1 : 1 ≤ b) (h2 : b ≤ 1000000) (k : ∀ (r : Int) l σ1 H1, 0 ≤ r → r < b → Wd K C S G H0 H1 σ1 ((Γ.set i (.d (.int r))).set j (.l l [])) → tz D σ1 H1) :
    tSeq (tPar i j (tCons (tCall (spH K C) [] E (tCons (tVar m) (tCons (tC (.int b)) tNil))) (tCons (tLst tNil) tNil))) tz D σ H :=
  dr_next w hi ev_int h1 h2 fun r H1 r0 r1 w1 => (en_lst ed_nil : EvN K C (tLst tNil) σ H1 []) H1 (Same.refl H1) _ fun l H2 hl e2 a2 => ⟨.int r, .ref l, rfl, k r l _ H2 r0 r1 ((w1.set i (v := .int r) (c := .d (.int r)) (Td.int r)).setN j e2 hl a2)⟩
end Pt
namespace Pt
open PySem PySem.Spec PyProof.Rows L2
variable {K : PySem.W.Frag} {C : Addr} {H H' H1 H2 : Hp} {v w x y : V} {vs : List V} {d e : PyData} {ds es : List PyData}
def rowK (l : List Int) : List Key := l.map .inl
theorem rowK_kV (l : List Int) : (rowK l).map kV = l.map V.int := by unfold rowK; rw [List.map_map]; rfl
theorem rowK_inj {l m : List Int} (h : rowK l = rowK m) : l = m := by
  induction l generalizing m with
  | nil => cases m with
    | nil => rfl
    | cons => simp [rowK] at h
  | cons a l ih => cases m with
    | nil => simp [rowK] at h
    | cons b m =>
      simp only [rowK, List.map_cons, List.cons.injEq] at h
      obtain ⟨h1, h2⟩ := h
      rw [Sum.inl.inj h1, ih h2]
abbrev En := List Int × Int × Addr
abbrev tk (P : Program) (w : World) := tupleKind (mixKind P w)
def Ents (es : List En) (xs : List (List Key × Addr × Value)) : Prop := Paired (fun (e : En) (q : List Key × Addr × Value) => q.1 = rowK e.1 ∧ q.2.1 = e.2.2 ∧ RelV (.int e.2.1) q.2.2) es xs
def DTo (P : Program) (w : World) (a : Addr) (es : List En) : HO := .ext fun h => (a == sysModules) = false ∧ ∃ xs, Ents es xs ∧ ∃ o ent ep, h.get? a = some o ∧ o.ExactDict ∧ o.data = .dict ent ep ∧ ent.toList = xs.map (entryOfKey (tk P w)) ∧ (xs.map (·.1)).Nodup
def ksOf (es : List En) : List (Addr × List V) := es.map fun e => (e.2.2, e.1.map V.int)
def lookE (es : List En) (k : List Int) : Option Int := (es.find? fun e => decide (e.1 = k)).map (·.2.1)
theorem Ents.val {es : List En} {xs : List (List Key × Addr × Value)} (r : Ents es xs) (k : List Int) : RelO ((lookE es k).map V.int) ((atKey xs (rowK k)).map (·.2)) := by
  unfold Ents at r
  induction r with
  | nil => exact True.intro
  | @cons p q ps qs h t ih =>
    obtain ⟨h1, _, h2⟩ := h
    by_cases e : p.1 = k
    · have e' : q.1 = rowK k := by rw [h1, e]
      have a : lookE (p :: ps) k = some p.2.1 := by simp [lookE, List.find?_cons, e]
      have b : atKey (q :: qs) (rowK k) = some q.2 := by simp [atKey, List.find?_cons, e']
      rw [a, b]; exact h2
    · have e' : ¬ q.1 = rowK k := fun z => e (rowK_inj (h1.symm.trans z))
      have a : lookE (p :: ps) k = lookE ps k := by simp [lookE, List.find?_cons, e]
      have b : atKey (q :: qs) (rowK k) = atKey qs (rowK k) := by simp [atKey, List.find?_cons, e']
      rw [a, b]; exact ih
theorem Ents.len {es : List En} {xs : List (List Key × Addr × Value)} (r : Ents es xs) : es.length = xs.length := Paired.length r
theorem lookE_snoc {es : List En} {k m : List Int} {x : Int} {b : Addr} (h : lookE es k = none) : lookE (es ++ [(k, x, b)]) m = if m = k then some x else lookE es m := by
  unfold lookE at h ⊢
  rw [List.find?_append]
  by_cases e : m = k
  · subst e
    rw [if_pos rfl]
    have z : (es.find? fun e => decide (e.1 = m)) = none := by simpa using h
    rw [z]
    simp
  · rw [if_neg e]
    have z : (List.find? (fun e : En => decide (e.1 = m)) [(k, x, b)]) = none := by
      rw [List.find?_cons]
      have : decide (k = m) = false := decide_eq_false (fun z => e z.symm)
      simp [this]
    rw [z, Option.or_none]
section
variable {X : Cx} {pins : List (Addr × Obj)} {σ : L2.St} {s : Shared} {a b : Addr} {A : Around} {E : Value → Shared → Prop}
theorem keyF {P : Program} {w : World} {h : Heap} {l : List Int} (ok : HOk P w H h) (e : SqF H a (l.map V.int)) : (tk P w).is h (rowK l) a := by
  obtain ⟨ob, e, _⟩ := e
  obtain ⟨h0, _, its, r, o, h1, h2, n, h3⟩ := (show ObjOk P w H h a (.frz ob (.tup (l.map V.int))) from ok a _ e)
  exact ⟨o, its.toArray, n, h1, h2, h3, by
    have r' : Vals ((rowK l).map kV) its := by rw [rowK_kV]; exact r
    simpa using items_are r'⟩
theorem dtf {es : List En} (I : Inv X pins σ H s) (e : H a = some (DTo X.prog X.w a es)) (hk : ∀ q ∈ ksOf es, SqF H q.1 q.2) : (a == sysModules) = false ∧ ∃ xs, Ents es xs ∧ s.heap.DictOfH (tk X.prog X.w) a xs := by
  obtain ⟨⟨hd, xs, r, o, ent, ep, h1, h2, h3, h4, h5⟩, _, _⟩ := (show ObjOk X.prog X.w H s.heap a (DTo X.prog X.w a es) from I.hok a _ e)
  refine ⟨hd, xs, r, o, ent, ep, h1, h2, h3, h4, ?_, h5⟩
  have all : ∀ {l : List En} {m : List (List Key × Addr × Value)}, Ents l m → (∀ q ∈ ksOf l, SqF H q.1 q.2) → ∀ x ∈ m, (tk X.prog X.w).is s.heap x.1 x.2.1 := by
    intro l m q
    unfold Ents at q
    induction q with
    | nil => intro _ x hx; exact nomatch hx
    | @cons p q ps qs hq t ih =>
      intro hk x hx
      rcases List.mem_cons.mp hx with e | hx
      · subst e
        rw [hq.1, hq.2.1]
        exact keyF I.hok (hk (p.2.2, p.1.map V.int) (List.mem_map.mpr ⟨p, List.mem_cons_self, rfl⟩))
      · exact ih (fun q m => hk q (by simp only [ksOf, List.map_cons, List.mem_cons]; exact .inr m)) x hx
  exact all r hk
theorem dto_ok {P : Program} {w : World} {h : Heap} {es : List En} (hd : (a == sysModules) = false) {xs : List (List Key × Addr × Value)} (r : Ents es xs) {o : Obj} {ent : Array DictEntry} {ep : Nat} (h1 : h.get? a = some o) (h2 : o.ExactDict) (h3 : o.data = .dict ent ep) (h4 : ent.toList = xs.map (entryOfKey (tk P w))) (h5 : (xs.map (·.1)).Nodup) : ObjOk P w H h a (DTo P w a es) :=
  ⟨⟨hd, xs, r, o, ent, ep, h1, h2, h3, h4, h5⟩, ⟨o, h1⟩, fun _ _ ⟨hd, xs, r, o, ent, ep, h1, h2, h3, h4, h5⟩ k => ⟨hd, xs, r, o, ent, ep, k _ h1, h2, h3, h4, h5⟩⟩
end
def tGetF (P : Program) (w : World) (td ty : TE) : TE := fun σ H Q => td σ H fun x H1 => ty σ H1 fun y H2 => ∃ a b es k v, x = .ref a ∧ y = .ref b ∧ H2 a = some (DTo P w a es) ∧ (∀ q ∈ ksOf es, SqF H2 q.1 q.2) ∧ SqF H2 b (k.map V.int) ∧ lookE es k = some v ∧ Q (.int v) H2
def tInF (P : Program) (w : World) (ty td : TE) : TE := fun σ H Q => ty σ H fun y H1 => td σ H1 fun x H2 => ∃ a b es k, x = .ref a ∧ y = .ref b ∧ H2 a = some (DTo P w a es) ∧ (∀ q ∈ ksOf es, SqF H2 q.1 q.2) ∧ SqF H2 b (k.map V.int) ∧ Q (.bl (lookE es k).isSome) H2
def tNotInF (P : Program) (w : World) (ty td : TE) : TE := fun σ H Q => ty σ H fun y H1 => td σ H1 fun x H2 => ∃ a b es k, x = .ref a ∧ y = .ref b ∧ H2 a = some (DTo P w a es) ∧ (∀ q ∈ ksOf es, SqF H2 q.1 q.2) ∧ SqF H2 b (k.map V.int) ∧ Q (.bl (!(lookE es k).isSome)) H2
def sPutF (P : Program) (w : World) (td ty tv : TE) : TS := fun D σ H => tv σ H fun v H1 => td σ H1 fun x H2 => ty σ H2 fun y H3 => ∃ a b es k m, x = .ref a ∧ y = .ref b ∧ v = .int m ∧ H3 a = some (DTo P w a es) ∧ (∀ q ∈ ksOf es, SqF H3 q.1 q.2) ∧ SqF H3 b (k.map V.int) ∧ lookE es k = none ∧ es.length < sizeLine ∧
  D.nx σ (L2.upd H3 a (DTo P w a (es ++ [(k, m, b)])))
def tDispF (P : Program) (w : World) (ty tv : TE) : TE := fun σ H Q => ∀ p, H p = none → ty σ (L2.upd H p (DTo P w p [])) fun y H1 => tv σ H1 fun v H2 => ∃ b k m, y = .ref b ∧ v = .int m ∧ H2 p = some (DTo P w p []) ∧ SqF H2 b (k.map V.int) ∧ Q (.ref p) (L2.upd H2 p (DTo P w p [(k, m, b)]))
section
variable {X : Cx} {o i e value : Expr} {pos pos' : Pos} {td ty tv : TE}
theorem pe_dgetF (hu : X.A.units + 1 < cLine) (ho : PE X o td) (hi : PE X i ty) (hs : NoSl i) : PE X (.Subscript o i pos) (tGetF X.prog X.w td ty) := by
  refine pe_at (fun pins s2 σ H2 x y u iv Q I2 rx ry ⟨a, b, es, k, v, ex, ey, e, hk, sk, l, q2⟩ => ?_) ho hi hs
  subst ex ey
  obtain rfl : u = Value.ref a := rx
  obtain rfl : iv = Value.ref b := ry
  obtain ⟨hd, xs, rel, dd⟩ := dtf I2 e hk
  obtain ⟨w', hw, rw'⟩ := RelO.some_of (v := .int v) (o := (atKey xs (rowK k)).map (·.2)) (by have := rel.val k; rw [l] at this; exact this)
  obtain ⟨p, hp, hp2⟩ := Option.map_eq_some_iff.mp hw
  refine ⟨dd.typeIs, wpAny_getItem_heap (tupleKind_room_in1 hu) (keyF I2.hok sk) dd hp ?_⟩
  rw [hp2]
  exact ⟨.int v, H2, I2.tok _, rw', q2⟩
theorem pc_dinF (hu : X.A.units + 1 < cLine) (hi : PE X i ty) (ho : PE X o td) : PC X .In i o (tInF X.prog X.w ty td) := by
  refine pc_at (fun pins s2 σ H2 y x iv u Q I2 ry rx ⟨a, b, es, k, ex, ey, e, hk, sk, q2⟩ => ?_) hi ho
  subst ex ey
  obtain rfl : u = Value.ref a := rx
  obtain rfl : iv = Value.ref b := ry
  obtain ⟨hd, xs, rel, dd⟩ := dtf I2 e hk
  refine wpAny_in_heap (tupleKind_room_in1 hu) (keyF I2.hok sk) hd dd ?_
  have q := (rel.val k).isSome_eq
  rw [Option.isSome_map, Option.isSome_map] at q
  rw [← q]
  exact ⟨.bl _, H2, I2.tok _, rfl, q2⟩
theorem pc_dnotinF (hu : X.A.units + 1 < cLine) (hi : PE X i ty) (ho : PE X o td) : PC X .NotIn i o (tNotInF X.prog X.w ty td) := by
  refine pc_at (fun pins s2 σ H2 y x iv u Q I2 ry rx ⟨a, b, es, k, ex, ey, e, hk, sk, q2⟩ => ?_) hi ho
  subst ex ey
  obtain rfl : u = Value.ref a := rx
  obtain rfl : iv = Value.ref b := ry
  obtain ⟨hd, xs, rel, dd⟩ := dtf I2 e hk
  refine wpAny_notIn_heap (tupleKind_room_in1 hu) (keyF I2.hok sk) hd dd ?_
  have q := (rel.val k).isSome_eq
  rw [Option.isSome_map, Option.isSome_map] at q
  rw [← q]
  exact ⟨.bl _, H2, I2.tok _, rfl, q2⟩
theorem nokey {es : List En} {xs : List (List Key × Addr × Value)} (r : Ents es xs) {k : List Int} (h : lookE es k = none) : atKey xs (rowK k) = none := by
  have q := (r.val k).isSome_eq
  rw [Option.isSome_map, Option.isSome_map, h] at q
  cases z : atKey xs (rowK k) with
  | none => rfl
  | some _ => rw [z] at q; cases q
theorem Ents.snoc {es : List En} {xs : List (List Key × Addr × Value)} (r : Ents es xs) {k : List Int} {m : Int} {b : Addr} {u : Value} (hu : RelV (.int m) u) : Ents (es ++ [(k, m, b)]) (xs ++ [(rowK k, b, u)]) := Paired.snoc r ⟨rfl, rfl, hu⟩
theorem ps_dputF (hu : X.A.units + 1 < cLine) (ho : PE X o td) (hi : PE X i ty) (hv : PE X value tv) (hs : swapsWith value (some (.Subscript o i pos')) pos.line X.env = pure false) :
    PS X (.Assign [.Subscript o i pos'] value pos) (sPutF X.prog X.w td ty tv) := by
  refine ps_at (W := fun x y v H3 Q => ∃ a b es k m, x = .ref a ∧ y = .ref b ∧ v = .int m ∧ H3 a = some (DTo X.prog X.w a es) ∧ (∀ q ∈ ksOf es, SqF H3 q.1 q.2) ∧ SqF H3 b (k.map V.int) ∧ lookE es k = none ∧ es.length < sizeLine ∧ Q (L2.upd H3 a (DTo X.prog X.w a (es ++ [(k, m, b)])))) (fun pins s3 σ H3 x y v u iv r Q I3 rx ry rv ⟨a, b, es, k, m, ex, ey, ev, e, hk, sk, l, hz, q3⟩ => ?_) ho hi hv hs
  subst ex ey ev
  obtain rfl : u = Value.ref a := rx
  obtain rfl : iv = Value.ref b := ry
  obtain ⟨hd, xs, rel, dd⟩ := dtf I3 e hk
  have hl := rel.len
  refine wpAny_setItem_heap (hsz := by omega) (tupleKind_room_in1 hu) (keyF I3.hok sk) dd fun h' dd' hs => ?_
  rw [storedH_new (nokey rel l)] at dd'
  obtain ⟨q, ent, ep, hq, h2, h3, h4, _, h5⟩ := dd'
  exact ⟨_, d_write I3 (by rw [e]; exact True.intro) hs ⟨q, hq⟩ (dto_ok hd (rel.snoc rv) hq h2 h3 h4 h5), q3⟩
theorem pe_dispF (hu : X.A.units < cLine) (hi : PE X i ty) (hv : PE X value tv) : PE X (.Dict [some i] [value] pos) (tDispF X.prog X.w ty tv) := by
  refine ⟨fun pins s σ H Q I h => ?_⟩
  have hn := I.hok.fresh (Nat.le_refl s.heap.objs.size)
  have hd : (s.heap.objs.size == sysModules) = false := beq_eq_false_iff_ne.mpr (Ne.symm (Nat.ne_of_lt I.big))
  have I1 := I.laid (a := s.heap.objs.size) (o := DTo X.prog X.w s.heap.objs.size []) (h' := s.heap.push { cls := .type "dict", data := .dict #[] }) (t' := s.toks) (fun _ _ q => Heap.get?_push_of_some _ q) (Nat.le_refl _)
    (dto_ok hd (xs := []) .nil (Heap.get?_push_size _ rfl) ⟨rfl, rfl, rfl⟩ rfl rfl List.nodup_nil)
  refine wpAny_Dict_any rfl rfl (by simp) (by simp) (pairTrees_cons_walk (thn (hi.run pins _ σ _ _ I1 (h _ hn)) fun iv s2 ⟨y, H2, I2, ry, q2⟩ => thn (hv.run pins s2 σ H2 _ I2 q2) fun r s3 ⟨v, H3, I3, rv, b, k, m, ey, ev, e, sk, q3⟩ => pairTrees_nil_walk ?_))
  subst ey ev
  obtain rfl : iv = Value.ref b := ry
  obtain ⟨_, xs, rel, dd⟩ := dtf I3 e (fun q m => nomatch m)
  have hx : xs = [] := List.length_eq_zero_iff.mp rel.len.symm
  subst hx
  unfold storeAll
  rw [List.forIn_cons]
  refine wpAny_bind (wpAny_bind (wpAny_dictSet_heap (hsz := by decide) (knd := tk X.prog X.w) hu (keyF I3.hok sk) dd fun h' dd' hs => wpAny_pure ?_))
  show wpAny _ _ (forIn ([] : List (Value × Value)) _ _) _ _ _
  rw [List.forIn_nil]
  rw [storedH_new (nokey rel rfl)] at dd'
  obtain ⟨q, ent, ep, hq, h2, h3, h4, _, h5⟩ := dd'
  exact wpAny_pure ⟨.ref s.heap.objs.size, _, d_write I3 (by rw [e]; exact True.intro) hs ⟨q, hq⟩ (dto_ok hd (rel.snoc rv) hq h2 h3 h4 h5), rfl, q3⟩
end
end Pt
namespace Pt
open PySem PySem.Spec PyProof.Rows L2
variable {K : PySem.W.Frag} {C : Addr} {H H' H1 H2 : Hp} {v w x y : V} {vs : List V} {d e : PyData} {ds es : List PyData}
variable {S : List Addr} {G : List (V × PyData)} {H0 : Hp} {σ : L2.St} {Γ : List Ct} {i j k : Nat} {c : Ct} {te ta tb tc tl ty td tv : TE} {t u : TT}
variable {D : Ends} {tu tw tz : TS} {p q : Addr} {P : Program} {W : World}
abbrev dct (P : Program) (W : World) (f : Addr) (en : List En) : Ct := .o f (DTo P W f en) (ksOf en)
theorem row_of {b : V} {r : List Int} (h : Td K H b (row r)) : ∃ a, b = .ref a ∧ SqF H a (r.map V.int) := by
  obtain ⟨a, xs, rfl, s, t⟩ := Td.tup_of h
  rw [t.iL_of] at s
  exact ⟨a, rfl, s⟩
theorem ks_snoc {en : List En} {r : List Int} {m : Int} {b : Addr} {q : Addr × List V} (h : q ∈ ksOf (en ++ [(r, m, b)])) : q ∈ ksOf en ∨ q = (b, r.map V.int) := by
  unfold ksOf at h ⊢
  rw [List.map_append, List.mem_append] at h
  rcases h with h | h
  · exact .inl h
  · exact .inr (by simpa using h)
theorem ev_notInF {f : Addr} {en : List En} {r : List Int} (ha : EvC K C ty σ H (.d (row r))) (hb : EvC K C td σ H (dct P W f en)) : EvC K C (tNotInF P W ty td) σ H (.d (.bool (!(lookE en r).isSome))) := fun H1 e1 Q k =>
  ha H1 e1 _ fun y H2 e2 a2 => hb H2 (e1.trans e2) _ fun x H3 e3 a3 => by
    obtain ⟨rfl, hf, _, hk⟩ := a3
    obtain ⟨b, rfl, sb⟩ := row_of a2
    exact ⟨f, b, en, r, rfl, rfl, hf, hk, (Tx.of e3).sqF sb, k _ H3 (e2.trans e3) (.bl _)⟩
theorem s_putF {f : Addr} {en : List En} {r : List Int} {m : Int} (w : Wd K C S G H0 H σ Γ) (hi : Γ[i]? = some (dct P W f en)) (hy : EvC K C ty σ H (.d (row r))) (hv : EvC K C tv σ H (.d (.int m))) (hl : lookE en r = none) (hz : en.length < 10000000)
    (k : ∀ b H1, Wd K C S G H0 H1 σ (Γ.set i (dct P W f (en ++ [(r, m, b)]))) → D.nx σ H1) : sPutF P W (tVar i) ty tv D σ H :=
  hv H (Same.refl H) _ fun v H1 e1 a1 => by
    obtain ⟨vf, ef, af⟩ := (w.mono e1).get hi
    obtain ⟨rfl, _⟩ := id af
    refine ⟨.ref f, ef, hy H1 e1 _ fun y H2 e2 a2 => ?_⟩
    obtain ⟨b, rfl, sb⟩ := row_of a2
    obtain ⟨_, hf, wr, hk⟩ := CtAt.mono e2 af
    refine ⟨f, b, en, r, m, rfl, rfl, Td.int_of a1, hf, hk, sb, hl, Nat.lt_of_lt_of_le hz (by decide), k b _ ?_⟩
    refine ((w.mono e1).mono e2).chgG hi rfl rfl rfl rfl True.intro fun v a => ?_
    obtain ⟨ev, hf, wr, hk⟩ := a
    have tx : Tx H2 (L2.upd H2 f (DTo P W f (en ++ [(r, m, b)]))) := .fr (LT.oneW hf True.intro) Fr.upd
    refine ⟨ev, upd_same, True.intro, fun q mq => tx.sqF ?_⟩
    rcases ks_snoc mq with mq | rfl
    · exact hk q mq
    · exact sb
theorem disp_new {r : List Int} {m : Int} (hy : EvC K C ty σ H (.d (row r))) {Q : VK} (k : ∀ f b H1, H f = none → Same H H1 → CtAt K C H1 (.ref f) (dct P W f [(r, m, b)]) → Q (.ref f) H1) : tDispF P W ty (tC (.int m)) σ H Q := fun f hf =>
  hy _ (same_new hf) _ fun y H1 e1 a1 => by
    obtain ⟨b, rfl, sb⟩ := row_of a1
    have h1 : H1 f = some (DTo P W f []) := e1 _ _ upd_same
    have tx : Tx H1 (L2.upd H1 f (DTo P W f [(r, m, b)])) := .fr (LT.oneW h1 True.intro) Fr.upd
    refine ⟨b, r, m, rfl, rfl, h1, sb, k f b _ hf (fun a o h => ?_) ⟨rfl, upd_same, True.intro, fun q mq => ?_⟩⟩
    · have ne : a ≠ f := fun z => by rw [z, hf] at h; cases h
      rw [upd_ne ne]
      exact e1 _ _ (by rw [upd_ne ne]; exact h)
    · have e : q = (b, r.map V.int) := by simpa [ksOf] using mq
      rw [e]
      exact tx.sqF sb
theorem q_par3 {l : Nat} {r : List Int} {tr : TE} (w : Wd K C S G H0 H σ Γ) (hy : EvC K C ty σ H (.d (row r))) (hr : EvC K C tr σ H (.d (row r))) (k : ∀ f b lv σ1 H1, Wd K C S G H0 H1 σ1 (((Γ.set i (dct P W f [(r, 0, b)])).set j (.l lv [row r])).set l (.d (.int 0))) → tz D σ1 H1) :
    tSeq (tPar3 i j l (tCons (tDispF P W ty (tC (.int 0))) (tCons (tLst (tCons tr tNil)) (tCons (tC (.int 0)) tNil)))) tz D σ H :=
  by
  show tDispF P W ty (tC (.int 0)) σ H fun x H1 => (tCons (tLst (tCons tr tNil)) (tCons (tC (.int 0)) tNil)) σ H1 fun xs H2 => ∃ u v w, x :: xs = [u, v, w] ∧ tz D (((σ.set i (some u)).set j (some v)).set l (some w)) H2
  refine disp_new hy fun f b H1 hf e1 a1 => ?_
  refine (en_lst (ed_cons (EvC.mono e1 hr) ed_nil) : EvN K C (tLst (tCons tr tNil)) σ H1 [row r]) H1 (Same.refl H1) _ fun lv H2 hl e2 a2 => ?_
  exact ⟨.ref f, .ref lv, .int 0, rfl, k f b lv _ H2 (((w.setO i e1 hf a1).setN j e2 hl a2).set l (v := .int 0) (c := .d (.int 0)) (Td.int 0))⟩
theorem s_move (w : Wd K C S G H0 H σ Γ) (hi : Γ[i]? = some (.l p ds)) (k : ∀ σ1, Wd K C S G H0 H σ1 ((Γ.set i .u).set j (.l p ds)) → D.nx σ1 H) : tAsg (tVar i) (gName j) D σ H := by
  obtain ⟨v, e, a⟩ := w.get hi
  obtain ⟨rfl, _⟩ := id a
  refine ⟨.ref p, e, k _ ((w.drop i).setC j a (fun _ => w.wr i _ hi rfl) fun j' c' x hj h m m' => ?_)⟩
  rcases set_cases h with ⟨_, rfl, _⟩ | ⟨ne, h⟩
  · simp [Ct.adr] at m'
  · rcases w.dj i j' _ c' x hi h m m' with z | z
    · exact ne z.symm
    · cases z.1
theorem lay_rows : ∀ L : List (List Int), PyData.canLayAll0 (L.map row) = true
  | [] => by simp [PyData.canLayAll0]
  | l :: L => by
    have h1 := lay_rows L
    have h2 := lay_iL l
    simp only [List.map_cons, PyData.canLayAll0, PyData.canLay0, row, h2, Bool.true_and]
    exact h1
theorem depth_rows : ∀ L : List (List Int), PyData.depthAll (L.map row) ≤ 3
  | [] => by simp [PyData.depthAll]
  | l :: L => by
    have h1 := depth_rows L
    have h2 := depth_iL l
    simp only [List.map_cons, PyData.depthAll, PyData.depth, row] at h1 ⊢
    omega
theorem ev_neNil {p : Addr} {L : List (List Int)} (ha : EvC K C ta σ H (.l p (L.map row))) : EvC K C (tOp (rNeD K) ta (tLst tNil)) σ H (.d (.bool (!L.isEmpty))) := fun H1 e1 Q k =>
  ha H1 e1 _ fun x H2 e2 a2 => (en_lst ed_nil : EvN K C (tLst tNil) σ H2 []) H2 (Same.refl H2) _ fun b H3 hb e3 a3 => by
    obtain ⟨rfl, xs, s, t⟩ := CtAt.mono e3 a2
    obtain ⟨_, ys, s', t'⟩ := a3
    have sh : SeqAt.shaped (.list (L.map row)) = true := by
      show ((PyData.list (L.map row)).canLay0 && decide ((PyData.list (L.map row)).depth ≤ 64)) = true
      have h1 := depth_rows L
      rw [Bool.and_eq_true]
      refine ⟨?_, decide_eq_true ?_⟩
      · simp only [PyData.canLay0]; exact lay_rows L
      · simp only [PyData.depth]; omega
    refine ⟨.list (L.map row), .list [], .lst (SqL.of s) (TdAll.dp _ _ t), .lst (SqL.of s') (TdAll.dp _ _ t'), sh, shaped_list [], ?_⟩
    have e : PyData.eqv (.list (L.map row)) (.list []) = L.isEmpty := by
      simp only [PyData.eqv]
      cases L <;> simp [PyData.eqvAll]
    rw [e]
    exact k _ H3 (e2.trans e3) (.bl _)
def allRows (n : Nat) : Nat → List (List Int)
  | 0 => [[]]
  | k + 1 => ((List.range n).map fun a : Nat => (allRows n k).map fun l => (a : Int) :: l).flatten
theorem allRows_len (n : Nat) : ∀ k, (allRows n k).length = n ^ k
  | 0 => rfl
  | k + 1 => by
    unfold allRows
    rw [List.length_flatten, List.map_map]
    have e : (List.range n).map (List.length ∘ fun a : Nat => (allRows n k).map fun l => (a : Int) :: l) = List.replicate n (n ^ k) := by
      refine List.eq_replicate_iff.mpr ⟨by simp, fun x hx => ?_⟩
      obtain ⟨a, _, rfl⟩ := List.mem_map.mp hx
      show (List.map _ _).length = _
      rw [List.length_map, allRows_len n k]
    rw [e, List.sum_replicate_nat, Nat.pow_succ, Nat.mul_comm]
theorem mem_allRows {n : Nat} : ∀ {k : Nat} {l : List Int}, l.length = k → (∀ x ∈ l, 0 ≤ x ∧ x < (n : Int)) → l ∈ allRows n k
  | 0, l, hl, _ => by
    have : l = [] := List.length_eq_zero_iff.mp hl
    subst this
    exact List.mem_singleton.mpr rfl
  | k + 1, [], hl, _ => by cases hl
  | k + 1, x :: l, hl, h => by
    have hx := h x List.mem_cons_self
    unfold allRows
    refine List.mem_flatten.mpr ⟨_, List.mem_map.mpr ⟨x.toNat, List.mem_range.mpr (by omega), rfl⟩, List.mem_map.mpr ⟨l, mem_allRows (Nat.succ.inj hl) fun y m => h y (List.mem_cons_of_mem _ m), by rw [Int.toNat_of_nonneg hx.1]⟩⟩
theorem nodup_le {α : Type} [DecidableEq α] : ∀ (l U : List α), l.Nodup → (∀ x ∈ l, x ∈ U) → l.length ≤ U.length
  | [], _, _, _ => Nat.zero_le _
  | x :: l, U, h, hs => by
    have hx := hs x List.mem_cons_self
    have hn := List.nodup_cons.mp h
    have z := nodup_le l (U.erase x) hn.2 fun y m => (List.mem_erase_of_ne (fun e => hn.1 (by rw [← e]; exact m))).mpr (hs y (List.mem_cons_of_mem _ m))
    rw [List.length_erase_of_mem hx] at z
    have := List.length_pos_of_mem hx
    rw [List.length_cons]
    omega
theorem look_none {en : List En} {r : List Int} (h : lookE en r = none) : r ∉ en.map (·.1) := fun m => by
  obtain ⟨e, m', rfl⟩ := List.mem_map.mp m
  unfold lookE at h
  rw [Option.map_eq_none_iff, List.find?_eq_none] at h
  exact h e m' (by simp)
theorem look_some {en : List En} {r : List Int} (h : r ∈ en.map (·.1)) : ∃ x, lookE en r = some x := by
  cases e : lookE en r with
  | none => exact absurd h (look_none e)
  | some x => exact ⟨x, rfl⟩
end Pt
namespace Pt
open PySem PySem.Spec PyProof.Rows L2
section
variable {prog : Program} {w : World} {A : Around} {E : Value → Shared → Prop} {s : Shared}
theorem rev_applied {sl : Addr} {vs : Value} {n : Nat} {Q : Int × Int × Nat → Shared → Prop} (hs : s.heap.IsSliceOf sl .none .none vs) (ps : IsPart vs (some (-1)))
    (h : Q ((n : Int) - 1, -1, n) s) : wpAny (model prog w) A (Builtin.Slice.sliceApplied (.ref sl) (pure (n : Int))) Q E s := by
  obtain ⟨os, hos, hcs, hds⟩ := id hs
  unfold Builtin.Slice.sliceApplied Builtin.Slice.sliceFields
  refine wpAny_bind (wpAny_bind (wpAny_field hos hds (x := .none) rfl (wpAny_bind (wpAny_field hos hds (x := .none) rfl (wpAny_bind (wpAny_field hos hds (x := vs) rfl (wpAny_pure ?_)))))))
  refine wpAny_bind (HT.slicePart_ ps ?_)
  show wpAny _ _ (if ((-1 : Int) == 0) = true then _ else _) _ _ s
  rw [if_neg (by decide)]
  refine wpAny_bind (slicePart_none (wpAny_bind (slicePart_none (wpAny_bind (wpAny_pure ?_)))))
  have e : Builtin.Slice.slicePlaces ((n : Int) - 1) (-1) (-1) = n := by
    unfold Builtin.Slice.slicePlaces
    rw [if_neg (by decide)]
    by_cases z : (n : Int) - 1 > -1
    · rw [if_pos z, show ((n : Int) - 1 - -1 - 1) / (- -1) = (n : Int) - 1 by rw [show (- -1 : Int) = 1 by decide, Int.ediv_one]; omega]
      omega
    · rw [if_neg z]
      omega
  show wpAny _ _ (pure ((n : Int) - 1, (-1 : Int), Builtin.Slice.slicePlaces ((n : Int) - 1) (-1) (-1))) _ _ s
  rw [e]
  exact wpAny_pure h
theorem fm_congr {α β : Type} {f g : α → Option β} : ∀ {l : List α}, (∀ x ∈ l, f x = g x) → l.filterMap f = l.filterMap g
  | [], _ => rfl
  | x :: l, h => by
    rw [List.filterMap_cons, List.filterMap_cons, h x List.mem_cons_self, fm_congr fun y m => h y (List.mem_cons_of_mem _ m)]
theorem rev_pick (xs : Array Value) : ((List.range xs.size).filterMap fun (k : Nat) => xs[(((xs.size : Int) - 1) + (k : Int) * (-1)).toNat]?).toArray = xs.toList.reverse.toArray := by
  have e : (List.range xs.size).filterMap (fun (k : Nat) => xs[(((xs.size : Int) - 1) + (k : Int) * (-1)).toNat]?) = ((List.range xs.size).map fun k => xs.size - 1 - k).filterMap (xs[·]?) := by
    rw [List.filterMap_map]
    refine fm_congr fun k hk => ?_
    show xs[(((xs.size : Int) - 1) + (k : Int) * (-1)).toNat]? = xs[xs.size - 1 - k]?
    have hk := List.mem_range.mp hk
    rw [show (((xs.size : Int) - 1) + (k : Int) * (-1)).toNat = xs.size - 1 - k by omega]
  rw [e, PySem.W.krv_range, List.filterMap_reverse, PySem.W.krv_all]
open AutoSeq1 (wpAny_loadPart') in
theorem tup_rev_meets {t sl : Addr} {items : Array Value} {vs : Value} {n : Nat} {dd : Option Addr} {ss : Array (Option Value)} (few : items.size ≤ sizeLine) (ps : IsPart vs (some (-1))) :
    Meets (Builtin.«tuple.__getitem__» ⟨[.ref t, .ref sl], []⟩) (fun _ R s => s.heap.get? t = some { cls := .type "tuple", dict := dd, data := .seq items n, slots := ss } ∧ s.heap.IsSliceOf sl .none .none vs ∧ R (.ok (.ret (.ref s.heap.objs.size))) { s with heap := s.heap.push { cls := .type "tuple", data := .seq items.toList.reverse.toArray } }) := by
  refine .of_wp fun prog w A R ⟨hp, gs, dr, tk, os⟩ ⟨here, sl0, q⟩ => ?_
  obtain ⟨o, h1, h2, h3⟩ := id sl0
  have is : Shared.TypeIs ⟨hp, gs, dr, tk, os⟩ (.ref sl) "slice" := ⟨o, h1, h2⟩
  have applied : ∀ {A' : Around} {E : Value → Shared → Prop} {Q : Int × Int × Nat → Shared → Prop}, Q ((items.size : Int) - 1, -1, items.size) ⟨hp, gs, dr, tk, os⟩ → wpAny (model prog w) A' (Builtin.Slice.sliceApplied (.ref sl) (pure (items.size : Int))) Q E ⟨hp, gs, dr, tk, os⟩ := fun h => rev_applied sl0 ps h
  wp_walk using wpAny_loadPart' here, wpAny_typeOf is, applied
  rw [rev_pick]
  refine wpAny_ite_false (decide_eq_false ?_) ?_
  · rw [List.size_toArray, List.length_reverse, Array.length_toList]
    omega
  · wp_walk using wpAny_loadPart' here
    exact ⟨_, rfl, q⟩
end
section
variable {X : Cx} {pos : Pos}
def rRevT (K : PySem.W.Frag) : V → Option Int → Option Int → Option Int → Hp → VK → Prop := fun x lo hi st H Q => lo = none ∧ hi = none ∧ st = some (-1) ∧ ∃ a xs, x = .ref a ∧ SqT K H a xs ∧ ∀ p o, H p = none → o.dict = none → Q (.ref p) (L2.upd H p (.frz o (.tup xs.reverse)))
theorem sl_rev : Sl3 X (rRevT X.K) := by
  rintro pins s σ H Q x v vl vu vs lo hi st sl I rx sl0 ⟨pl, pu, pt⟩ ⟨rfl, rfl, rfl, a, xs, rfl, tup, q⟩
  obtain rfl : v = .ref a := rx
  cases pl
  cases pu
  obtain ⟨its, r, ⟨⟨_, dd, _, ss⟩, here, rfl, n, rfl⟩, few⟩ := I.tuple tup
  have is : s.TypeIs (.ref a) "tuple" := ⟨_, here, rfl⟩
  refine ⟨"tuple", _, PyProof.Rows.slot_tuple_getitem.lookup, is, ?_⟩
  unfold getItem
  refine wpAny_holding (wpAny_bind (wpAny_sequenceKey is (by decide) (wpAny_bind (wpAny_callSpecial?_slot (name := Str.ofString "__getitem__") is PyProof.Rows.slot_tuple_getitem (call_meets PyProof.Rows.slot_tuple_getitem is entry_tuple_getitem (args_tuple_getitem _ _)
    (tup_rev_meets (by have := r.length; rw [List.size_toArray]; omega) pt) ⟨here, sl0, wpAny_pure ?_⟩)))))
  exact ⟨.ref _, _, laidF I r.reverse (by rw [List.length_reverse]; exact few), rfl, q _ _ (I.hok.fresh (Nat.le_refl _)) rfl⟩
def tRevT (K : PySem.W.Frag) (te : TE) : TE := tSl3 (rRevT K) te tNoPart tNoPart (tPart (tUn (rU fun i => .int (-i)) (tC (.int 1))))
theorem pe_revT {e : Expr} {te : TE} {k : Nat} {p1 p2 p3 pos : Pos} (he : PE X e te) : PE X (.Subscript e (.Slice none none (some (.UnaryOp .USub (.Constant (.int 1) k p1) p2)) p3) pos) (tRevT X.K te) :=
  pe_sl3 (fun v w => [v, w]) (fun _ _ => by with_unfolding_all rfl) sl_rev he po_none po_none (po_some (pe_un un_neg pe_int))
end
section
variable {K : PySem.W.Frag} {C : Addr} {H : Hp} {σ : L2.St} {te : TE} {ds : List PyData}
theorem pe_revK (K : PySem.W.Frag) {X : Cx} {e : Expr} {te : TE} {k : Nat} {p1 p2 p3 pos : Pos} (he : PE X e te) (h : X.K = K := by rfl) : PE X (.Subscript e (.Slice none none (some (.UnaryOp .USub (.Constant (.int 1) k p1) p2)) p3) pos) (tRevT K te) := h ▸ pe_revT he
theorem ev_revT (h : EvC K C te σ H (.d (.tuple ds))) : EvC K C (tRevT K te) σ H (.d (.tuple ds.reverse)) := fun H1 e1 Q q =>
  h H1 e1 _ fun v H2 e2 a => by
    obtain ⟨p, xs, rfl, s, t⟩ := Td.tup_of a
    exact ⟨1, rfl, -1, rfl, rfl, rfl, rfl, p, xs, rfl, s.sq, fun l o hl ho => q _ _ (e2.trans (same_new hl)) (new_t hl ho t.reverse)⟩
end
end Pt
namespace Pt
open PySem PySem.Spec PyProof.Rows L2
variable {K : PySem.W.Frag} {C : Addr} {H H' H1 H2 : Hp} {v w x y : V} {vs : List V} {d e : PyData} {ds es : List PyData}
variable {S : List Addr} {G : List (V × PyData)} {H0 : Hp} {σ : L2.St} {Γ : List Ct} {i j k : Nat} {c : Ct} {te ta tb tc tl ty td tv : TE} {t u : TT}
variable {D : Ends} {tu tw tz : TS} {p q : Addr} {b : Int} {E : XK}
theorem q_mix {z : Addr} {cells : List Int} (w : Wd K C S G H0 H σ Γ) (hi : Γ[i]? = some (.z z (iL cells))) (hl : cells.length ≤ 63) (k : ∀ p c σ1 H1, Wd K C S G H0 H1 σ1 (Γ.set j (.h p c)) → tz D σ1 H1) :
    tSeq (tAsg (tCall (spM K C) [] E (tCons (tVar i) (tCons (tC (.int b)) tNil))) (gName j)) tz D σ H := by
  obtain ⟨v, e, a⟩ := w.get hi
  refine ⟨v, e, z, cells, v, b, rfl, a, hl, fun p c H1 hp hc e1 ct => k p c _ H1 ((w.mono e1).setC j ct (fun _ x m => .inr ?_) fun j' c' x _ h m m' => ?_)⟩
  · have m : x = p ∨ x = c := by simpa [Ct.adr] using m
    rcases m with rfl | rfl
    · exact w.fresh0 hp
    · exact w.fresh0 hc
  · have m : x = p ∨ x = c := by simpa [Ct.adr] using m
    rcases m with rfl | rfl
    · exact w.fresh hp h m'
    · exact w.fresh hc h m'
theorem q_drawAdd {a : Int} (w : Wd K C S G H0 H σ Γ) (hi : Γ[i]? = some (.h p q)) (h1 : 1 ≤ b) (h2 : b ≤ 1000000) (k : ∀ (r : Int) σ1 H1, 0 ≤ r → r < b → Wd K C S G H0 H1 σ1 (Γ.set j (.d (.int (a + r)))) → tz D σ1 H1) :
    tSeq (tAsg (tOp (rAddU K) (tC (.int a)) (tCall (spH K C) [] E (tCons (tVar i) (tCons (tC (.int b)) tNil)))) (gName j)) tz D σ H :=
  dr_next w hi ev_int h1 h2 fun r H1 r0 r1 w1 => .inl ⟨a, r, rfl, rfl, k r _ H1 r0 r1 (w1.set j (v := .int (a + r)) (c := .d (.int (a + r))) (Td.int _))⟩
theorem q_drawEq {m : Int} (w : Wd K C S G H0 H σ Γ) (hi : Γ[i]? = some (.h p q)) (h1 : 1 ≤ b) (h2 : b ≤ 1000000) (k : ∀ (z : Bool) σ1 H1, Wd K C S G H0 H1 σ1 (Γ.set j (.d (.bool z))) → tz D σ1 H1) :
    tSeq (tAsg (tOp (rEqD K) (tCall (spH K C) [] E (tCons (tVar i) (tCons (tC (.int b)) tNil))) (tC (.int m))) (gName j)) tz D σ H :=
  dr_next w hi ev_int h1 h2 fun r H1 r0 r1 w1 => ⟨.int r, .int m, .int r, .int m, shaped_int r, shaped_int m, k _ _ H1 (w1.set j (v := .bl _) (c := .d (.bool _)) (Td.bl _))⟩
theorem q_drawD3 {a a' : Nat} {d1 d2 : PyData} {E' : XK} {A : List Ag → Prop} {R : List Ag → PyData → Prop} (w : Wd K C S G H0 H σ Γ) (hi : Γ[i]? = some (.h p q)) (ha : Γ[a]? = some (.d d1)) (ha' : Γ[a']? = some (.d d2)) (h1 : 1 ≤ b) (h2 : b ≤ 1000000) (hA : ∀ r, 0 ≤ r → r < b → A [.c (.d d1), .c (.d d2), .c (.d (.int r))])
    (k : ∀ d r σ1 H1, R [.c (.d d1), .c (.d d2), .c (.d (.int r))] d → Wd K C S G H0 H1 σ1 (Γ.set j (.d d)) → tz D σ1 H1) :
    tSeq (tAsg (tCall (spDr K C A R) [] E (tCons (tVar i) (tCons (tVar a) (tCons (tVar a') (tCons (tCall (spH K C) [] E' (tCons (tVar i) (tCons (tC (.int b)) tNil))) tNil))))) (gName j)) tz D σ H := by
  obtain ⟨v, e, c0⟩ := w.get hi
  obtain ⟨rfl, _⟩ := id c0
  obtain ⟨v1, e1, c1⟩ := w.get ha
  obtain ⟨v2, e2, c2⟩ := w.get ha'
  refine ⟨.ref p, e, v1, e1, v2, e2, dr_next w hi ev_int h1 h2 fun r H1 r0 r1 w1 => ?_⟩
  obtain ⟨v', e', c0'⟩ := w1.get hi
  rw [e] at e'; cases e'
  obtain ⟨v1', e1', c1'⟩ := w1.get ha
  rw [e1] at e1'; cases e1'
  obtain ⟨v2', e2', c2'⟩ := w1.get ha'
  rw [e2] at e2'; cases e2'
  exact ⟨p, q, [v1, v2, .int r], [.c (.d d1), .c (.d d2), .c (.d (.int r))], rfl, c0', ⟨c1', c2', Td.int r, True.intro⟩, hA r r0 r1, fun v d H2 hR f ct td => k d r _ H2 hR ((w1.drawn hi f ct).set j td)⟩
theorem shaped_bool (b : Bool) : SeqAt.shaped (.bool b) = true := by
  show ((PyData.bool b).canLay0 && decide ((PyData.bool b).depth ≤ 64)) = true
  simp [PyData.canLay0, PyData.depth]
theorem eqv_bool (a b : Bool) : PyData.eqv (.bool a) (.bool b) = (a == b) := by
  cases a <;> cases b <;> simp [PyData.eqv]
theorem ev_neB {a b : Bool} (ha : EvC K C ta σ H (.d (.bool a))) (hb : EvC K C tb σ H (.d (.bool b))) : EvC K C (tOp (rNeD K) ta tb) σ H (.d (.bool (!(a == b)))) := eqv_bool a b ▸ ev_neD ha hb (shaped_bool a) (shaped_bool b)
theorem ev_neN (ha : EvN K C ta σ H ds) (hb : EvN K C tb σ H es) (h1 : SeqAt.shaped (.list ds) = true) (h2 : SeqAt.shaped (.list es) = true) : EvC K C (tOp (rNeD K) ta tb) σ H (.d (.bool (!PyData.eqv (.list ds) (.list es)))) := fun H1 e1 Q k =>
  ha H1 e1 _ fun a H2 _ e2 a2 => hb H2 (e1.trans e2) _ fun b H3 _ e3 a3 => by
    obtain ⟨_, xs, s, t⟩ := CtAt.mono e3 a2
    obtain ⟨_, ys, s', t'⟩ := a3
    exact ⟨_, _, .lst (SqL.of s) (TdAll.dp _ _ t), .lst (SqL.of s') (TdAll.dp _ _ t'), h1, h2, k _ H3 (e2.trans e3) (.bl _)⟩
end Pt
namespace Pt
open PySem PySem.Spec PyProof.Rows L2
variable {K : PySem.W.Frag} {C : Addr} {H H' H1 H2 : Hp} {v w x y : V} {vs : List V} {d e : PyData} {ds es : List PyData}
variable {S : List Addr} {G : List (V × PyData)} {H0 : Hp} {σ : L2.St} {Γ : List Ct} {i j k : Nat} {c : Ct} {te ta tb tc tl ty td tv : TE} {t u : TT}
variable {D : Ends} {tu tw tz : TS} {p q : Addr} {b : Int} {E : XK}
theorem s_retLQ {Q : VK} {nx : L2.St → Hp → Prop} {bk ct} (w : Wd K C [] G H0 H σ Γ) (q : ∀ p H', H0 p = none → Same H0 H' → CtAt K C H' (.ref p) (.l p ds) → Q (.ref p) H') (hi : Γ[i]? = some (.l p ds)) : tRet (tVar i) { nx := nx, rt := Q, bk := bk, ct := ct } σ H := by
  obtain ⟨v, e, a⟩ := w.get hi
  obtain ⟨rfl, _⟩ := id a
  exact ⟨.ref p, e, q p H ((w.wr i _ hi rfl p (by simp [Ct.adr])).elim (fun z => by simp at z) id) w.fr0 a⟩
end Pt
namespace Pt
open PySem PySem.Spec PyProof.Rows L2
variable {K : PySem.W.Frag} {C : Addr} {H H' H1 H2 : Hp} {v w x y : V} {vs : List V} {d e : PyData} {ds es : List PyData}
abbrev sortedD (ds : List PyData) : List PyData := ds.mergeSort (PySem.W.dataLe false id)
def rSortD (K : PySem.W.Frag) : List V → Hp → VK → Prop := fun vs H Q => ∃ (a : Addr) (xs : List V) (ds : List PyData), vs = [.ref a] ∧ SqL K H a xs ∧ TdAll K H xs ds ∧ PySem.W.AllAlike ds ∧ (PySem.W.Sortable ds ∨ (ds.length ≤ 1 ∧ ∀ d ∈ ds, d ≠ .none)) ∧ (∀ d ∈ ds, d.depth ≤ 8) ∧
  ∀ (ys : List V) (p : Addr), TdAll K H ys (sortedD ds) → H p = none → Q (.ref p) (L2.upd H p (.lst ys))
theorem each_of : ∀ {xs : List V} {its : List Value} {ds : List PyData}, Vals xs its → TdAll K H xs ds → PySem.W.EachIs (fun v d => ∃ x, RelV x v ∧ Td K H x d) its ds
  | _, _, _, .nil, .nil => .nil
  | _, _, _, .cons r rs, .cons t ts => .cons ⟨_, r, t⟩ (each_of rs ts)
theorem each_back : ∀ {out : List Value} {ds : List PyData}, PySem.W.EachIs (fun v d => ∃ x, RelV x v ∧ Td K H x d) out ds → ∃ ys, Vals ys out ∧ TdAll K H ys ds
  | _, _, .nil => ⟨[], .nil, .nil⟩
  | _, _, .cons ⟨x, r, t⟩ e => let ⟨ys, rs, ts⟩ := each_back e; ⟨x :: ys, .cons r rs, .cons t ts⟩
theorem vals_get : ∀ {xs : List V} {its : List Value} {i : Nat} {v : Value}, Vals xs its → its[i]? = some v → ∃ x, xs[i]? = some x ∧ RelV x v
  | _, _, _, _, .nil, e => by simp at e
  | _, _, 0, _, .cons r _, e => by simp at e; subst e; exact ⟨_, rfl, r⟩
  | _, _, i + 1, _, .cons _ t, e => by
    obtain ⟨x, h1, h2⟩ := vals_get (i := i) t (by simpa using e)
    exact ⟨x, by simpa using h1, h2⟩
section
open PySem.W PyProof.Rows
def Can (ds : List PyData) : Prop := ∀ (P : Program) (w : World) (A : Around) (s : Shared) (vs : List Value), EachIs (fun v d => ∃ as, Reads s.heap v d as) vs ds → (∀ d ∈ ds, A.units + d.depth < cLine) → SortsAt P w A s (dataKind s.heap ds) vs
theorem can_sortable (al : AllAlike ds) (k : Sortable ds) : Can ds := fun _ _ _ _ _ e u => SortsAt.data e al k u
theorem keys_told {h : Heap} {vs : List Value} (e : EachIs (fun v d => ∃ as, Reads h v d as) vs ds) (al : AllAlike ds) (v : Value) (m : v ∈ vs) : ∃ k, (dataKind h ds).keyOf v = some k :=
  let ⟨d, md, as, r⟩ := e.left v m
  ⟨keyToks d, dataKind_some al md r⟩
theorem can_one (al : AllAlike ds) (some : ∀ d ∈ ds, d ≠ .none) (one : ds.length ≤ 1) : Can ds := fun P w A s vs e u => by
  refine ⟨keys_told e al, general', fun E x y a b Q ka kb q => ?_, fun two => ?_⟩
  · obtain ⟨d, as, md, ra, rfl⟩ := dataKind_inv ka
    obtain ⟨d', as', md', rb, rfl⟩ := dataKind_inv kb
    have deep : A.units + min d.depth d'.depth < cLine := by
      have := u d md
      omega
    exact (oneLt_alike (fun z => nomatch z) ra rb (al d md d' md') (some d md) deep q : wpAny _ _ (oneLt' false x y) _ _ _)
  · rw [e.length] at two
    omega
end
section
variable {X : Cx} {pins : List (Addr × Obj)} {σ : L2.St} {s : Shared}
theorem sorted_can {Q : VK} {a : Addr} {xs : List V} (hu : X.A.units + 12 < cLine) (I : Inv X pins σ H s) (lst : SqL X.K H a xs) (td : TdAll X.K H xs ds) (al : PySem.W.AllAlike ds) (can : Can ds) (deep : ∀ d ∈ ds, d.depth ≤ 8) (q : ∀ (ys : List V) (p : Addr), TdAll X.K H ys (sortedD ds) → H p = none → Q (.ref p) (L2.upd H p (.lst ys))) :
    wpAny (model X.prog X.w) X.A (call (.builtin "sorted") [.ref a]) (EP X pins σ Q) X.xe s := by
  obtain ⟨its, rv, here, few⟩ := I.list lst
  rw [← List.map_id ds] at al can
  have same : its.length = xs.length := rv.length.symm
  have reads : PySem.W.EachIs (fun v d => ∃ as, Reads (PySem.W.sortingHeap (PySem.W.copyHeap s.heap its) (s.heap.objs.size + 1) its) v (id d) as) its ds := (each_of rv td).mono fun v d ⟨x, rx, t⟩ =>
    let ⟨as, r⟩ := Dp.reads I d x v (Td.dp _ _ t) rx
    ⟨as, PyProof.Rows.Reads.keeps (fun _ _ => PySem.W.sorting_copy_old) r⟩
  obtain ⟨ys, ry, ty⟩ := each_back (PySem.W.sortVals_data false (each_of rv td) reads al)
  obtain ⟨ep, at1⟩ := PyProof.Rows.sortedAll_at s.heap its (PySem.W.sortVals (PySem.W.dataKind _ (ds.map id)) false its its).toArray
  refine PySem.W.sorted_vals here.isList (can X.prog X.w X.A.in1.in1 { s with heap := _ } its (PySem.W.each_map (R := fun v d => ∃ as, Reads _ v d as) id reads) (PySem.W.bound_map fun d m => ?_)) (by omega) ⟨.ref _, L2.upd H (s.heap.objs.size + 1) (.lst ys), I.laid (t' := s.toks) (fun _ _ => PyProof.Rows.sortedAll_old) (Nat.le_succ _) ⟨?_, _, ep, ry, at1⟩, rfl, q ys _ ty (I.hok.fresh (Nat.le_succ _))⟩
  · have := deep d m
    show X.A.units + 1 + 1 + PyData.depth d < cLine
    omega
  · rw [ry.length, PySem.W.sortVals_length false rfl, same]
    exact few
theorem call_sortD (hu : X.A.units + 12 < cLine) : CallR X (.builtin "sorted") (rSortD X.K) := fun pins s σ H vs us Q I r ⟨a, xs, ds, ev, lst, td, al, k, deep, q⟩ => by
  subst ev
  rw [Vals.ref1 r]
  exact sorted_can hu I lst td al (k.elim (can_sortable al) fun k => can_one al k.2 k.1) deep q
def rMinD (K : PySem.W.Frag) : List V → Hp → VK → Prop := fun vs H Q => ∃ (a : Addr) (xs : List V) (d : PyData) (ds : List PyData), vs = [.ref a] ∧ SqL K H a xs ∧ TdAll K H xs (d :: ds) ∧ PySem.W.AlikeAll (d :: ds) ∧ PyData.depthAll (d :: ds) ≤ 8 ∧
  ∀ y, Td K H y (PySem.W.minD d ds) → Q y H
theorem call_minD (hc : X.calm = true) (hu : X.A.units + 12 < cLine) : CallR X (.builtin "min") (rMinD X.K) := by
  intro pins s σ H vs us Q I r h
  obtain ⟨a, xs, d, ds, rfl, hs, td, hal, hd, q⟩ := h
  obtain ⟨its, rv, hl, hz⟩ := I.list hs
  rw [Vals.ref1 r]
  obtain ⟨as, hr⟩ := Dp.readsAll I (d :: ds) xs its (TdAll.dp _ _ td) rv
  refine PySem.W.min_list_data (vs := its.toArray) (I.ok.hd hc) hl.isList hr hal (by omega) fun i v h' tk bs hv hrd hk => ?_
  obtain ⟨x, hx, rx⟩ := vals_get rv (show its[i]? = some v by simpa using hv)
  obtain ⟨di, _, t⟩ := td.get' hx
  obtain ⟨as', r1⟩ := Dp.reads I di x v (Td.dp _ _ t) rx
  obtain ⟨e, _⟩ := PyProof.Rows.reads_det (fun b o eb _ => hk b o eb) r1 hrd
  exact ⟨x, H, I.kept hk, rx, q x (by rw [e]; exact t)⟩
theorem call_sortK (K : PySem.W.Frag) (hu : X.A.units + 12 < cLine) (h : X.K = K := by rfl) : CallR X (.builtin "sorted") (rSortD K) := h ▸ call_sortD hu
theorem call_minK (K : PySem.W.Frag) (hc : X.calm = true) (hu : X.A.units + 12 < cLine) (h : X.K = K := by rfl) : CallR X (.builtin "min") (rMinD K) := h ▸ call_minD hc hu
end
section
variable {S : List Addr} {G : List (V × PyData)} {H0 : Hp} {σ : L2.St} {Γ : List Ct} {i j k : Nat} {c : Ct} {te ta tb tc tl ty td tv : TE} {t u : TT}
variable {D : Ends} {tu tw tz : TS} {p q : Addr} {b : Int} {E : XK}
theorem _root_.L2.Room.units12 {k : Nat} {A : Around} (r : Room k A) : A.units + 12 < cLine := by have := r.un; omega
theorem q_unpD {d1 d2 : PyData} (w : Wd K C S G H0 H σ Γ) (h : EvC K C te σ H (.d (.tuple [d1, d2]))) (k : ∀ σ1 H1, Wd K C S G H0 H1 σ1 ((Γ.set i (.d d1)).set j (.d d2)) → tz D σ1 H1) : tSeq (tAsg te (gTup K 2 (gCons (gName i) (gCons (gName j) gNil)))) tz D σ H :=
  h H (Same.refl H) _ fun v H1 e1 a1 => by
    obtain ⟨a, xs, rfl, s, t⟩ := Td.tup_of a1
    cases t with
    | cons t1 t =>
      cases t with
      | cons t2 t =>
        cases t
        exact ⟨a, _, rfl, s.sq, rfl, _, _, rfl, _, _, rfl, rfl, k _ H1 (((w.mono e1).set i (c := .d d1) t1).set j (c := .d d2) t2)⟩
theorem ev_minN {d : PyData} {ds : List PyData} (h : EvN K C te σ H (d :: ds)) (h1 : PySem.W.AlikeAll (d :: ds)) (h2 : PyData.depthAll (d :: ds) ≤ 8) : EvC K C (tCB (rMinD K) (tCons te tNil)) σ H (.d (PySem.W.minD d ds)) := ev_cb (ea_consN h ea_nil) fun H1 _ vs a Q q => by
  obtain ⟨v, rfl, p, xs, rfl, s, t⟩ := a.one
  exact ⟨p, xs, d, ds, rfl, SqL.of s, t, h1, h2, fun y ty => q y H1 (Same.refl H1) ty⟩
end
end Pt
namespace Pt
open PySem PySem.Spec PyProof.Rows L2
variable {K : PySem.W.Frag} {C : Addr} {H H' H1 H2 : Hp} {v w x y : V} {vs : List V} {d e : PyData} {ds es : List PyData}
variable {S : List Addr} {G : List (V × PyData)} {H0 : Hp} {σ : L2.St} {Γ : List Ct} {i j k : Nat} {c : Ct} {te ta tb tc tl ty td tv : TE} {t u : TT}
theorem wipe2 (σ : L2.St) {i j : Nat} (h : i ≠ j) (x y : Option V) : wipe (((wipe σ [i, j]).set i x).set j y) [i, j] = wipe σ [i, j] := by
  refine List.ext_getElem? fun k => ?_
  simp only [wipe, List.getElem?_set, List.length_set]
  by_cases h1 : i = k
  · subst h1
    simp
  · by_cases h2 : j = k
    · subst h2
      simp [h1]
    · simp [h1, h2]
theorem Wd.wiped2 (w : Wd K C S G H0 H σ Γ) (i j : Nat) : Wd K C S G H0 H (wipe σ [i, j]) ((Γ.set j .u).set i .u) := by
  have w1 := (w.wiped j).wiped i
  exact w1
theorem en_lcP {l : List (Int × Int)} {q : Addr} (hij : i ≠ j) (w : Wd K C S G H0 H σ Γ) (hl : EvC K C tl σ H (.s q (l.map pairD))) (f : Int × Int → Bool) (g : Int × Int → PyData) (hz : l.length < 10000000)
    (ht : ∀ p ∈ l, ∀ σ1 H1, Wd K C S G H0 H1 σ1 ((((Γ.set j .u).set i .u).set i (.d (.int p.1))).set j (.d (.int p.2))) → EvT t σ1 H1 (f p)) (he : ∀ p ∈ l, ∀ σ1 H1, Wd K C S G H0 H1 σ1 ((((Γ.set j .u).set i .u).set i (.d (.int p.1))).set j (.d (.int p.2))) → f p = true → EvC K C te σ1 H1 (.d (g p))) :
    EvN K C (tLc (iList K tl) (gTup K 2 (gCons (gName i) (gCons (gName j) gNil))) t te [i, j]) σ H (kept f g l) := fun H1 e1 Q q' => hl H1 e1 _ fun v H2 e2 a => by
  obtain ⟨rfl, xs, s, td⟩ := a
  have len : xs.length = l.length := by rw [td.length, List.length_map]
  refine ⟨q, rfl, ⟨xs, SqL.of s⟩, fun Dl hD => lc_list (xs := xs) (fun k H' => Cw K H2 Dl (kept f g (l.take k)) H') (by rw [List.take_zero]; exact Cw.start hD) (fun k H' _ c => SqL.of (c.2.1 _ _ s)) (fun k x H' hk c => ?_) (fun H' c => ?_)⟩
  · have hk' : k < l.length := by rw [← len]; exact (List.getElem?_eq_some_iff.mp hk).1
    have ek : l[k]? = some l[k] := List.getElem?_eq_getElem hk'
    obtain ⟨d, h1, h2⟩ := td.get' hk
    have ed : d = pairD l[k] := by rw [List.getElem?_map, ek] at h1; exact (Option.some.inj h1).symm
    subst ed
    obtain ⟨a, ys, rfl, sa, ta⟩ := Td.tup_of (Td.mono (.of c.2.1) _ _ h2)
    have ey : ys = [.int l[k].1, .int l[k].2] := TdAll.iL_of (l := [l[k].1, l[k].2]) ta
    subst ey
    have w2 : Wd K C S G H0 H2 (((wipe σ [i, j]).set i (some (.int l[k].1))).set j (some (.int l[k].2))) ((((Γ.set j .u).set i .u).set i (.d (.int l[k].1))).set j (.d (.int l[k].2))) := ((((w.mono (e1.trans e2)).wiped2 i j).set i (c := .d (.int l[k].1)) (Td.int _)).set j (c := .d (.int l[k].2)) (Td.int _))
    have m : l[k] ∈ l := List.getElem_mem hk'
    refine ⟨a, _, rfl, sa.sq, rfl, _, _, rfl, _, _, rfl, rfl, ?_⟩
    refine ⟨wipe2 σ hij _ _, ?_⟩
    have z := cw_turn (C := C) (te := te) (d := g l[k]) c (Nat.lt_of_le_of_lt kept_len hz) (ht _ m _ _ w2) (he _ m _ _ w2)
    rw [← kept_step ek] at z
    exact z
  · rw [len, List.take_length] at c
    obtain ⟨c1, c2, acc, c3, c4⟩ := c
    exact q' Dl H' (e2.free c1) (e2.trans c2) ⟨rfl, acc, c3, c4⟩
theorem Cw.mono {Dl : Addr} (c : Cw K H Dl es H1) (e : Same H1 H2) : Cw K H Dl es H2 := by
  obtain ⟨c1, c2, acc, c3, c4⟩ := c
  exact ⟨c1, c2.trans e, acc, e _ _ c3, TdAll.mono (.of e) _ _ c4⟩
theorem en_lcE {l : List Int} (hij : i ≠ j) (w : Wd K C S G H0 H σ Γ) (hl : EvC K C tl σ H (.d (row l))) (f : Nat → Bool) (g : Nat → PyData) (hz : l.length < 10000000)
    (ht : ∀ p : Nat, ∀ (hp : p < l.length), ∀ σ1 H1, Wd K C S G H0 H1 σ1 ((((Γ.set j .u).set i .u).set i (.d (.int (p : Nat)))).set j (.d (.int l[p]))) → EvT t σ1 H1 (f p)) (he : ∀ p : Nat, ∀ (hp : p < l.length), ∀ σ1 H1, Wd K C S G H0 H1 σ1 ((((Γ.set j .u).set i .u).set i (.d (.int (p : Nat)))).set j (.d (.int l[p]))) → f p = true → EvC K C te σ1 H1 (.d (g p))) :
    EvN K C (tLc (iEnumT K (tCons tl tNil)) (gTup K 2 (gCons (gName i) (gCons (gName j) gNil))) t te [i, j]) σ H (kept f g (List.range l.length)) := fun H1 e1 Q q' => hl H1 e1 _ fun v H2 e2 a => by
  obtain ⟨q, xs, rfl, s, td⟩ := Td.tup_of a
  have len : xs.length = l.length := by rw [td.length, iL_len]
  refine ⟨q, xs, rfl, s.sq, fun Dl hD => lc_it (walk_E walk_tup) (fun k H' => Cw K H2 Dl (kept f g ((List.range l.length).take k)) H') (by rw [List.take_zero]; exact Cw.start hD) (fun k H' _ c => ((Tx.of c.2.1).sqF s).sq) (fun k v H' Hv _ c y => ?_) (fun H' c => ?_)⟩
  · obtain ⟨T, x, rfl, nT, rfl, _, hk⟩ := y
    have hk' : k < l.length := by rw [← len]; exact (List.getElem?_eq_some_iff.mp hk).1
    have ek : (List.range l.length)[k]? = some k := by rw [List.getElem?_range hk']
    obtain ⟨d, h1, h2⟩ := td.get' hk
    have ed : d = .int l[k] := by
      rw [iL_get, List.getElem?_eq_getElem hk'] at h1
      exact (Option.some.inj h1).symm
    subst ed
    rw [Td.int_of h2]
    have w2 : Wd K C S G H0 H2 (((wipe σ [i, j]).set i (some (.int (k : Nat)))).set j (some (.int l[k]))) ((((Γ.set j .u).set i .u).set i (.d (.int (k : Nat)))).set j (.d (.int l[k]))) := ((((w.mono (e1.trans e2)).wiped2 i j).set i (c := .d (.int (k : Nat))) (Td.int _)).set j (c := .d (.int l[k])) (Td.int _))
    refine ⟨T, _, rfl, SqT.of upd_same, rfl, _, _, rfl, _, _, rfl, rfl, ?_⟩
    refine ⟨wipe2 σ hij _ _, ?_⟩
    have z := cw_turn (C := C) (te := te) (d := g k) (c.mono (same_new (o := .tup [.int (k : Nat), .int l[k]]) nT)) (Nat.lt_of_le_of_lt kept_len (by rw [List.length_range]; exact hz)) (ht _ hk' _ _ w2) (he _ hk' _ _ w2)
    rw [← kept_step ek] at z
    exact z
  · rw [len, List.take_of_length_le (by rw [List.length_range]; exact Nat.le_refl _)] at c
    obtain ⟨c1, c2, acc, c3, c4⟩ := c
    exact q' Dl H' (e2.free c1) (e2.trans c2) ⟨rfl, acc, c3, c4⟩
theorem en_sortN (h : EvN K C te σ H ds) (h1 : PySem.W.AllAlike ds) (h2 : PySem.W.Sortable ds) (h3 : ∀ d ∈ ds, d.depth ≤ 8) : EvN K C (tCB (rSortD K) (tCons te tNil)) σ H (sortedD ds) := en_cb (ea_consN h ea_nil) fun H1 _ vs a Q q => by
  obtain ⟨v, rfl, p, xs, rfl, s, t⟩ := a.one
  exact ⟨p, xs, ds, rfl, SqL.of s, t, h1, .inl h2, h3, fun ys l ty hl => q l _ hl (same_new hl) (new_l hl ty)⟩
theorem en_sortN1 (h : EvN K C te σ H ds) (h1 : PySem.W.AllAlike ds) (h2 : PySem.W.Sortable ds ∨ (ds.length ≤ 1 ∧ ∀ d ∈ ds, d ≠ .none)) (h3 : ∀ d ∈ ds, d.depth ≤ 8) : EvN K C (tCB (rSortD K) (tCons te tNil)) σ H (sortedD ds) := en_cb (ea_consN h ea_nil) fun H1 _ vs a Q q => by
  obtain ⟨v, rfl, p, xs, rfl, s, t⟩ := a.one
  exact ⟨p, xs, ds, rfl, SqL.of s, t, h1, h2, h3, fun ys l ty hl => q l _ hl (same_new hl) (new_l hl ty)⟩
end Pt
namespace Pt
open PySem PySem.Spec PyProof.Rows L2
variable {K : PySem.W.Frag} {C : Addr} {H H' H1 H2 : Hp} {v w x y : V} {vs : List V} {d e : PyData} {ds es : List PyData}
variable {S : List Addr} {G : List (V × PyData)} {H0 : Hp} {σ : L2.St} {Γ : List Ct} {i j k : Nat} {c : Ct} {te ta tb tc tl ty td tv tr : TE} {t u : TT}
variable {D : Ends} {tu tw tz : TS} {p q f : Addr} {P : Program} {W : World}
def tDNewF (P : Program) (w : World) : TE := fun σ H Q => ∀ p, H p = none → Q (.ref p) (L2.upd H p (DTo P w p []))
theorem pe_dnewF {X : Cx} {pos : Pos} : PE X (.Dict [] [] pos) (tDNewF X.prog X.w) := ⟨fun pins s σ H Q I h => by
  have hd : (s.heap.objs.size == sysModules) = false := beq_eq_false_iff_ne.mpr (Ne.symm (Nat.ne_of_lt I.big))
  exact wpAny_Dict_empty ⟨.ref s.heap.objs.size, _, I.laid (a := s.heap.objs.size) (o := DTo X.prog X.w s.heap.objs.size []) (t' := s.toks) (fun _ _ q => Heap.get?_push_of_some _ q) (Nat.le_refl _)
    (dto_ok hd (xs := []) .nil (Heap.get?_push_size _ rfl) ⟨rfl, rfl, rfl⟩ rfl rfl List.nodup_nil), rfl, h _ (I.hok.fresh (Nat.le_refl _))⟩⟩
theorem dnew_ct (hf : H f = none) : CtAt K C (L2.upd H f (DTo P W f [])) (.ref f) (dct P W f []) := ⟨rfl, upd_same, True.intro, fun q m => by simp [ksOf] at m⟩
theorem q_asgO (w : Wd K C S G H0 H σ Γ) (k : ∀ f σ1 H1, H0 f = none → Wd K C S G H0 H1 σ1 (Γ.set i (dct P W f [])) → tz D σ1 H1) : tSeq (tAsg (tDNewF P W) (gName i)) tz D σ H := fun f hf =>
  k f _ _ (w.fresh0 hf) (w.setO i (same_new hf) hf (dnew_ct hf))
theorem ev_getF {f : Addr} {en : List En} {r : List Int} {x : Int} (hb : EvC K C td σ H (dct P W f en)) (ha : EvC K C ty σ H (.d (row r))) (hl : lookE en r = some x) : EvC K C (tGetF P W td ty) σ H (.d (.int x)) := fun H1 e1 Q k =>
  hb H1 e1 _ fun z H2 e2 a2 => ha H2 (e1.trans e2) _ fun y H3 e3 a3 => by
    obtain ⟨rfl, hf, _, hk⟩ := CtAt.mono e3 a2
    obtain ⟨b, rfl, sb⟩ := row_of a3
    exact ⟨f, b, en, r, x, rfl, rfl, hf, hk, sb, hl, k _ H3 (e2.trans e3) (.int _)⟩
theorem s_putF2 {f : Addr} {en : List En} {r : List Int} {m : Int} (w : Wd K C S G H0 H σ Γ) (hi : Γ[i]? = some (dct P W f en)) (hy : EvC K C ty σ H (.d (row r))) (hv : EvC K C tv σ H (.d (.int m))) (hl : lookE en r = none) (hz : en.length < sizeLine)
    (k : ∀ b H1, Wd K C S G H0 H1 σ (Γ.set i (dct P W f (en ++ [(r, m, b)]))) → D.nx σ H1) : sPutF P W (tVar i) ty tv D σ H :=
  hv H (Same.refl H) _ fun v H1 e1 a1 => by
    obtain ⟨vf, ef, af⟩ := (w.mono e1).get hi
    obtain ⟨rfl, _⟩ := id af
    refine ⟨.ref f, ef, hy H1 e1 _ fun y H2 e2 a2 => ?_⟩
    obtain ⟨b, rfl, sb⟩ := row_of a2
    obtain ⟨_, hf, wr, hk⟩ := CtAt.mono e2 af
    refine ⟨f, b, en, r, m, rfl, rfl, Td.int_of a1, hf, hk, sb, hl, hz, k b _ ?_⟩
    refine ((w.mono e1).mono e2).chgG hi rfl rfl rfl rfl True.intro fun v a => ?_
    obtain ⟨ev, hf, wr, hk⟩ := a
    have tx : Tx H2 (L2.upd H2 f (DTo P W f (en ++ [(r, m, b)]))) := .fr (LT.oneW hf True.intro) Fr.upd
    refine ⟨ev, upd_same, True.intro, fun q mq => tx.sqF ?_⟩
    rcases ks_snoc mq with mq | rfl
    · exact hk q mq
    · exact sb
theorem Wd.chgFr {c0 c1 : Ct} (w : Wd K C S G H0 H σ Γ) {p : Addr} (hi : Γ[i]? = some c0) (h0 : c0.adr = [p]) (o0 : c0.own = true) (h1 : c1.adr = [p]) (o1 : c1.own = true) (f : Fr [p] H H') (hu : ∃ u, H' p = some u ∧ Wr u) (hv : ∀ v, CtAt K C H v c0 → CtAt K C H' v c1) : Wd K C S G H0 H' σ (Γ.set i c1) := by
  have nu : c0 ≠ .u := fun z => by rw [z] at o0; cases o0
  have nu1 : c1 ≠ .u := fun z => by rw [z] at o1; cases o1
  obtain ⟨v, e1, a1⟩ := w.get hi nu
  obtain ⟨ou, e2, wu⟩ := a1.there (a := p) (by rw [h0]; simp)
  have l := LT.oneW e2 wu
  have hw := w.wr i _ hi o0 p (by rw [h0]; simp)
  refine ⟨fun a o h n => ?_, fun a m => ?_, by rw [List.length_set, w.len], fun j c' hj => ?_, fun j c' hj n => ?_, fun j k c1' c2 a h1' h2 m1 m2 => ?_, fun q m => Td.mono (.fr l f) _ _ (w.gh q m)⟩
  · refine f a o (w.fr a o h n) fun m => ?_
    have e : a = p := by simpa using m
    subst e
    rcases hw with hw | hw
    · exact n hw
    · rw [hw] at h; cases h
  · by_cases e : a = p
    · subst e; exact hu
    · obtain ⟨zs, h, z⟩ := w.sl a m
      exact ⟨zs, f a zs h (by simpa using e), z⟩
  · rcases set_cases hj with ⟨q1, q2, hl⟩ | ⟨ne, hj'⟩
    · rw [q2, q1]
      exact .mk e1 (hv v a1)
    · refine (w.at_ j c' hj').map fun u => CtAt.fr l f fun a m z => ne ?_
      have e : a = p := by simpa using z
      rw [e] at m
      exact (w.dj j i c' _ p hj' hi m (by rw [h0]; simp)).elim id fun z => by rw [o0] at z; cases z.2
  · rcases set_cases hj with ⟨rfl, rfl, hl⟩ | ⟨ne, hj⟩
    · intro a m
      rw [show a = p by rw [h1] at m; simpa using m]
      exact hw
    · exact w.wr j c' hj n
  · have old : ∀ {q : Nat} {c3 : Ct}, (Γ.set i c1)[q]? = some c3 → a ∈ c3.adr → ∃ c4, Γ[q]? = some c4 ∧ a ∈ c4.adr ∧ c4.own = c3.own := fun {q c3} h m => by
      rcases set_cases h with ⟨rfl, rfl, hl⟩ | ⟨ne, h⟩
      · exact ⟨_, hi, by rw [h0, ← h1]; exact m, by rw [o0, o1]⟩
      · exact ⟨_, h, m, rfl⟩
    obtain ⟨c3, h3, m3, o3⟩ := old h1' m1
    obtain ⟨c4, h4, m4, o4⟩ := old h2 m2
    rw [← o3, ← o4]
    exact w.dj j k c3 c4 a h3 h4 m3 m4
theorem Wd.chgD {en en' : List En} (w : Wd K C S G H0 H σ Γ) (hi : Γ[i]? = some (dct P W f en)) (fr : Fr [f] H H') (hf : H' f = some (DTo P W f en')) (hk : ∀ q ∈ ksOf en', SqF H' q.1 q.2) : Wd K C S G H0 H' σ (Γ.set i (dct P W f en')) :=
  w.chgFr hi rfl rfl rfl rfl fr ⟨_, hf, True.intro⟩ fun v a => ⟨a.1, hf, True.intro, hk⟩
def owns (Γ : List Ct) : List Addr := (Γ.map fun c => if c.own = true then c.adr else []).flatten
theorem mem_owns {a : Addr} : a ∈ owns Γ ↔ ∃ (i : Nat) (c : Ct), Γ[i]? = some c ∧ c.own = true ∧ a ∈ c.adr := by
  unfold owns
  rw [List.mem_flatten]
  constructor
  · rintro ⟨l, hl, ha⟩
    obtain ⟨c, hc, rfl⟩ := List.mem_map.mp hl
    obtain ⟨i, hi⟩ := List.mem_iff_getElem?.mp hc
    cases o : c.own with
    | true => rw [o, if_pos rfl] at ha; exact ⟨i, c, hi, o, ha⟩
    | false => rw [o, if_neg Bool.false_ne_true] at ha; cases ha
  · rintro ⟨i, c, hi, o, ha⟩
    exact ⟨_, List.mem_map.mpr ⟨c, List.mem_of_getElem? hi, rfl⟩, by rw [o, if_pos rfl]; exact ha⟩
theorem Wd.re (w : Wd K C S G H0 H σ Γ) : Wd K C (S ++ owns Γ) G H H σ Γ :=
  ⟨fun _ _ h _ => h, fun a m => by
    rcases List.mem_append.mp m with m | m
    · exact w.sl a m
    · obtain ⟨i, c, hi, o, ha⟩ := mem_owns.mp m
      obtain ⟨v, _, hv⟩ := w.get hi (fun z => by rw [z] at o; cases o)
      exact hv.there ha, w.len, w.at_, fun i c hi o a ha => .inl (List.mem_append.mpr (.inr (mem_owns.mpr ⟨i, c, hi, o, ha⟩))), w.dj, w.gh⟩
theorem Wd.un {Γ' : List Ct} {σ' : L2.St} {G' : List (V × PyData)} (w : Wd K C S G H0 H σ Γ) (w' : Wd K C (S ++ owns Γ) G' H H' σ' Γ') : Wd K C S G' H0 H' σ' Γ' := by
  have old : ∀ {a : Addr}, a ∈ owns Γ → a ∈ S ∨ H0 a = none := fun {a} m => by
    obtain ⟨i, c, hi, o, ha⟩ := mem_owns.mp m
    exact w.wr i c hi o a ha
  refine ⟨fun a o h n => w'.fr a o (w.fr a o h n) fun m => ?_, fun a m => w'.sl a (List.mem_append.mpr (.inl m)), w'.len, w'.at_, fun i c hi o a ha => ?_, w'.dj, w'.gh⟩
  · rcases List.mem_append.mp m with m | m
    · exact n m
    · rcases old m with z | z
      · exact n z
      · rw [z] at h; cases h
  · rcases w'.wr i c hi o a ha with m | m
    · rcases List.mem_append.mp m with m | m
      · exact .inl m
      · exact old m
    · exact .inr (w.fresh0 m)
theorem Wd.notin (w : Wd K C S G H0 H σ Γ) {p : Addr} (hp : H p = none) : p ∉ S ++ owns Γ := fun m => by
  obtain ⟨u, h, _⟩ := w.re.sl p m
  rw [hp] at h; cases h
theorem s_forN {α : Type} {l : List α} {mk : α → PyData} {g : TG} (w : Wd K C S G H0 H σ Γ) (h : EvN K C tl σ H (l.map mk)) (I : Nat → List Ct → Prop) (h0 : I 0 Γ)
    (hs : ∀ (S1 : List Addr) (H1 : Hp), (∀ σ2 H2 Γ2, Wd K C S1 G H1 H2 σ2 Γ2 → Wd K C S G H0 H2 σ2 Γ2) → ∀ (k : Nat) (hk : k < l.length) (v : V) σ' H' Γ', I k Γ' → Wd K C S1 G H1 H' σ' Γ' → Td K H' v (mk l[k]) →
      g v σ' H' fun σ2 H2 => tu { D with nx := fun σ H => ∃ Γ2, I (k + 1) Γ2 ∧ Wd K C S1 G H1 H σ Γ2, ct := fun σ H => ∃ Γ2, I (k + 1) Γ2 ∧ Wd K C S1 G H1 H σ Γ2, bk := D.nx } σ2 H2)
    (hd : ∀ σ' H' Γ', I l.length Γ' → Wd K C S G H0 H' σ' Γ' → D.nx σ' H') : tFor (iList K tl) g tu D σ H :=
  h H (Same.refl H) _ fun p H1 hp e a => by
    obtain ⟨_, xs, s, td⟩ := a
    have w1 := w.mono e
    have hp1 : H1 p ≠ none := fun z => by rw [s] at z; cases z
    -- the list is nobody's
    have np : p ∉ S ++ owns Γ := w.notin hp
    have w2 : Wd K C (S ++ owns Γ) G H1 H1 σ Γ := w1.re
    have un : ∀ σ2 H2 Γ2, Wd K C (S ++ owns Γ) G H1 H2 σ2 Γ2 → Wd K C S G H0 H2 σ2 Γ2 := fun σ2 H2 Γ2 w' => w1.un w'
    refine ⟨p, rfl, ⟨xs, SqL.of s⟩, walkL (ds := l.map mk) (fun k σ' H' => ∃ Γ', I k Γ' ∧ Wd K C (S ++ owns Γ) G H1 H' σ' Γ') ⟨Γ, h0, w2⟩ (fun k σ' H' ⟨Γ', _, w'⟩ => ⟨xs, w'.fr p _ s np, TdAll.mono (.fr w2.sl w'.fr) _ _ td⟩) (fun k d v σ' H' hd t ⟨Γ', hi, w'⟩ => ?_) (fun σ' H' ⟨Γ', hi, w'⟩ => ?_)⟩
    · have hk : k < l.length := by
        have := (List.getElem?_eq_some_iff.mp hd).1
        rw [List.length_map] at this
        exact this
      have ed : d = mk l[k] := by
        rw [List.getElem?_map, List.getElem?_eq_getElem hk] at hd
        exact (Option.some.inj hd).symm
      subst ed
      exact hs _ _ un k hk v σ' H' Γ' hi w' t
    · rw [List.length_map] at hi
      exact hd σ' H' Γ' hi (un _ _ _ w')
theorem q_forN {α : Type} {l : List α} {mk : α → PyData} {g : TG} (w : Wd K C S G H0 H σ Γ) (h : EvN K C tl σ H (l.map mk)) (I : Nat → List Ct → Prop) (h0 : I 0 Γ)
    (hs : ∀ (S1 : List Addr) (H1 : Hp), (∀ σ2 H2 Γ2, Wd K C S1 G H1 H2 σ2 Γ2 → Wd K C S G H0 H2 σ2 Γ2) → ∀ (k : Nat) (hk : k < l.length) (v : V) σ' H' Γ', I k Γ' → Wd K C S1 G H1 H' σ' Γ' → Td K H' v (mk l[k]) →
      g v σ' H' fun σ2 H2 => tu { D with nx := fun σ H => ∃ Γ2, I (k + 1) Γ2 ∧ Wd K C S1 G H1 H σ Γ2, ct := fun σ H => ∃ Γ2, I (k + 1) Γ2 ∧ Wd K C S1 G H1 H σ Γ2, bk := tz D } σ2 H2)
    (hd : ∀ σ' H' Γ', I l.length Γ' → Wd K C S G H0 H' σ' Γ' → tz D σ' H') : tSeq (tFor (iList K tl) g tu) tz D σ H :=
  s_forN (D := { D with nx := tz D }) w h I h0 hs hd
theorem g_pair {d1 d2 : PyData} {Q : L2.St → Hp → Prop} (w : Wd K C S G H0 H σ Γ) (t : Td K H v (.tuple [d1, d2])) (k : ∀ σ1, Wd K C S G H0 H σ1 ((Γ.set i (.d d1)).set j (.d d2)) → Q σ1 H) : gTup K 2 (gCons (gName i) (gCons (gName j) gNil)) v σ H Q := by
  obtain ⟨a, xs, rfl, s, t⟩ := Td.tup_of t
  cases t with
  | cons t1 t =>
    cases t with
    | cons t2 t =>
      cases t
      exact ⟨a, _, rfl, s.sq, rfl, _, _, rfl, _, _, rfl, rfl, k _ ((w.set i (c := .d d1) t1).set j (c := .d d2) t2)⟩
theorem g_one {d1 : PyData} {Q : L2.St → Hp → Prop} (w : Wd K C S G H0 H σ Γ) (t : Td K H v d1) (k : ∀ σ1, Wd K C S G H0 H σ1 (Γ.set i (.d d1)) → Q σ1 H) : gName i v σ H Q := k _ (w.set i (c := .d d1) t)
theorem same_frNew {u : HO} (e : Same H H2) (hf : H2 f = none) (fr : Fr [f] (L2.upd H2 f u) H') : Same H H' := fun a o h => by
  have h2 := e a o h
  have ne : a ≠ f := fun z => by rw [z, hf] at h2; cases h2
  exact fr a o (by rw [upd_ne ne]; exact h2) (by simpa using ne)
theorem s_break (h : D.bk σ H) : tBreak D σ H := h
theorem sortedD_pairs (l : List (Int × Int)) : sortedD (l.map pairD) = (l.mergeSort fun p q => decide (p.1 < q.1 ∨ (p.1 = q.1 ∧ p.2 ≤ q.2))).map pairD := by
  unfold sortedD
  refine (List.map_mergeSort fun a _ b _ => ?_).symm
  have h : PySem.W.dataLe false id (pairD a) (pairD b) = !PySem.W.dataLt (pairD b) (pairD a) := rfl
  have e : PySem.W.dataLt (pairD b) (pairD a) = decide (b.1 < a.1 ∨ (b.1 = a.1 ∧ b.2 < a.2)) := PySem.W.dataLt_ii b.1 b.2 a.1 a.2
  rw [h, e]
  by_cases z : a.1 < b.1 ∨ (a.1 = b.1 ∧ a.2 ≤ b.2)
  · rw [decide_eq_true z, decide_eq_false (by omega)]
    rfl
  · rw [decide_eq_false z, decide_eq_true (by omega)]
    rfl
theorem pairs_sortable (l : List (Int × Int)) : PySem.W.Sortable (l.map pairD) := .inl fun x hx => by
  obtain ⟨p, _, rfl⟩ := List.mem_map.mp hx
  exact ⟨_, _, rfl⟩
theorem pairs_allalike (l : List (Int × Int)) : PySem.W.AllAlike (l.map pairD) := fun x hx y hy => by
  obtain ⟨p, _, rfl⟩ := List.mem_map.mp hx
  obtain ⟨q, _, rfl⟩ := List.mem_map.mp hy
  simp [pairD, PySem.W.alike, PySem.W.alikeAll]
end Pt
namespace Pt
open PySem PySem.Spec PyProof.Rows L2
def spPass : Sp := fun vs H Q _ => ∃ v, vs = [v] ∧ Q .non H
structure XOk (K : PySem.W.Frag) (C fI : Addr) : Prop where
  T : OexC K C
  iC : PySem.W.findIn K (.ref C) "__init__" = some (some (.ref fI))
  tI : PySem.W.typeIn K (.ref fI) = some (.type "function")
theorem un_off {fs : List Addr} {H : Hp} {h0 h1 h2 G : Heap} {a : Addr} {o : HO} (young : h0.objs.size ≤ a) (sub : ∀ b ob, h0.get? b = some ob → h1.get? b = some ob) (off : ∀ b, b ≠ a → G.get? b = h2.get? b) (u : Un fs [] (upd H a o) (upd H a o) h1 h2) : Un fs [] H H h0 G := by
  have old : ∀ {b ob}, h0.get? b = some ob → h1.get? b = some ob ∧ G.get? b = h2.get? b ∧ upd H a o b = H b := fun {b ob} z =>
    have ne : b ≠ a := Nat.ne_of_lt (Nat.lt_of_lt_of_le (Heap.lt_size z) young)
    ⟨sub b ob z, off b ne, upd_ne ne⟩
  refine ⟨fun b ob z n f x => ?_, fun b ob z n f x => ?_, fun _ _ _ n _ => n, fun b ob z x => ?_, fun _ _ z => z, fun _ _ _ z => z, fun b ps z => ⟨#[], by simp [z]⟩⟩ <;> obtain ⟨z1, e1, e2⟩ := old z <;> rw [e1]
  · exact u.keep b ob z1 (e2.trans n) f x
  · exact u.slot b ob z1 (e2.trans n) f x
  · exact u.there b ob z1 x
theorem hok_off {P : Program} {w : World} {H : Hp} {h2 G : Heap} {a C : Addr} (new : H a = none) (off : ∀ b, b ≠ a → G.get? b = h2.get? b) (k : HOk P w (upd H a (exo a C none)) h2) : HOk P w H G := fun b o z => by
  have other : ∀ {c u}, H c = some u → c ≠ a := fun q e => by rw [e, new] at q; exact nomatch q
  have back : ∀ {c u}, u ≠ exo a C none → upd H a (exo a C none) c = some u → c ≠ a ∧ H c = some u := fun {c u} d q => by
    by_cases e : c = a
    · subst e
      rw [upd_same] at q
      exact absurd (Option.some.inj q).symm d
    · exact ⟨e, (upd_ne e).symm.trans q⟩
  refine (k b o ((upd_ne (other z)).trans z)).stay (fun c u own q => ?_) (fun c q => (back (Ne.symm exo_own) q).2) fun c xs q => (back (Ne.symm exo_tup) q).2
  rcases own with rfl | own
  · exact (off c (other z)).trans q
  · exact (off c (back (Ne.symm exo_own) own).1).trans q
section
variable {X : Cx} {p pos : Pos}
theorem pmk_ofN {e : Expr} {t : L2.St → Hp → XK → Prop} (h : L2N.PMk X e t) : PMk X e t := fun pins s σ H Q I q =>
  wpAny_mono (h pins s σ H Q I q) (fun u s' ⟨a, oe, vs, sI, H', cls, d, m⟩ => ⟨a, oe, vs, sI, H', cls, d, m.1, m.2.1, m.2.2.1, m.2.2.2.1, m.2.2.2.2.1, ⟨m.2.2.2.2.2.1.1, m.2.2.2.2.2.1.2.1⟩, m.2.2.2.2.2.2⟩) fun _ _ z => z
theorem own_new {CT : CXT} {C fI : Addr} {k : Nat} {fd : FuncData} {ps : List Str} {sp : Sp} {ds : List Value} {dvs : List V} (T : OexC X.K C) (iC : PySem.W.findIn X.K (.ref C) "__init__" = some (some (.ref fI))) (tI : PySem.W.typeIn X.K (.ref fI) = some (.type "function")) (F1 : FnOk X.prog X.w X.K X.mg X.base CT k fI fd ps sp) (room : Room (k + 1) X.A) (bd : Binds X.K fd ps ds) (df : Vals dvs ds) (hx : Passes CT X (fun _ _ _ => False))
    {pins : List (Addr × Obj)} {σ : L2.St} {H : Hp} {us : List Value} {vs : List V} {s : Shared} {R : Hp → Prop} {Q : Value → Shared → Prop} (I : Inv X pins σ H s) (r : Vals vs us) (few : us.length ≤ sizeLine)
    (told : sp (.ref (s.heap.objs.size + 1) :: (vs ++ dvs)) (upd H (s.heap.objs.size + 1) (exo (s.heap.objs.size + 1) C none)) (fun v H2 => v = .non ∧ R H2) (fun _ _ _ => False))
    (fin : ∀ (H2 : Hp) (h1 : Heap) (s2 : Shared), (∀ b o, s.heap.get? b = some o → h1.get? b = some o) → Un (frs X.stack) [] (upd H (s.heap.objs.size + 1) (exo (s.heap.objs.size + 1) C none)) H2 h1 s2.heap → HOk X.prog X.w H2 s2.heap → s2.os = s.os → AllBare s2.gens → R H2 → Q (.ref (s.heap.objs.size + 1)) s2) :
    wpAny (model X.prog X.w) X.A (call (.ref C) us) Q X.xe s := by
  obtain ⟨_, _, _, _, bm, _, _, _, _, _, _, _, _, _, _, here, main⟩ := T.cls
  obtain ⟨hp, gs, dr, tk, os⟩ := s
  have sub : ∀ b o, hp.get? b = some o → ((hp.push (PySem.W.kdv_tup us)).push (PySem.HandSPX.excO C hp.objs.size)).get? b = some o := fun b o z => Heap.get?_push_of_some _ (Heap.get?_push_of_some _ z)
  have J := I.laid (t' := tk) (o := exo (hp.objs.size + 1) C none) sub (Nat.le_succ _) (exo_ok (by heap_get))
  have len : (Value.ref (hp.objs.size + 1) :: us ++ ds).length = ps.length := by
    have := F1.len _ _ _ _ told
    have := r.length
    have := df.length
    simp only [List.length_cons, List.length_append] at *
    omega
  have run := F1.run _ X.stack _ _ ⟨.ref (hp.objs.size + 1) :: us, []⟩ _ _ _ _ (room.make C us []) (J.env0.make C us []) (bd _ _ J.kIn len) (.cons (show RelV (.ref (hp.objs.size + 1)) (.ref (hp.objs.size + 1)) from rfl) (r.append df)) told
  refine wpAny_call (PySem.HandSPX.call_own F.excBase_ValueError (PySem.HandSPX.refsVE_contains · bm main) (I.kIn _ _ here) (PySem.W.looks_findIn I.kIn iC) (fun z => PySem.W.bind_fn I.kIn z tI) few (codeAny_mono run fun out s2 z => ?_))
  rcases out with er | fl
  · exact hx pins σ _ _ er s2 J z
  · cases fl <;> first | exact z.elim | skip
    obtain ⟨v, H2, same, bare, un, ok, rv, rfl, m⟩ := z
    exact ⟨rv, fin H2 _ s2 sub un ok same bare m⟩
theorem pmk_ox0N {CT : CXT} {x : Str} {C fI : Addr} {k : Nat} {fd : FuncData} (T : OexC X.K C) (iC : PySem.W.findIn X.K (.ref C) "__init__" = some (some (.ref fI))) (tI : PySem.W.typeIn X.K (.ref fI) = some (.type "function")) (F1 : FnOk X.prog X.w X.K X.mg X.base CT k fI fd ["self"] spPass) (room : Room (k + 1) X.A) (bd : Binds X.K fd ["self"] []) (hx : Passes CT X (fun _ _ _ => False)) (hg : Gl X x) (hm : X.mg x = some (.ref C))
    (ndb : (x == ("__debug__" : Str)) = false := by decide) : L2N.PMk X (.Call (.Name x p) [] [] pos) (fun _ H Q => Q (.ref C) none H) := fun pins s σ H Q I h => by
  refine wpAny_Call_Name_kw (ld_glob I hg hm (PySem.W.callWith_K0 I.kIn T.kC ?_) ndb)
  refine own_new T iC tI F1 room bd .nil hx I .nil (Nat.zero_le _) (R := fun H2 => H2 = upd H (s.heap.objs.size + 1) (exo (s.heap.objs.size + 1) C none)) ⟨_, rfl, rfl, rfl⟩ fun H2 h1 s2 sub un ok same bare e => ?_
  subst e
  have new : H (s.heap.objs.size + 1) = none := I.hok.fresh (Nat.le_succ _)
  obtain ⟨t0, cell⟩ := exo_at ok upd_same
  obtain ⟨G, on, gone⟩ := restrict s2.heap fun b => decide (b ≠ s.heap.objs.size + 1)
  have off : ∀ b, b ≠ s.heap.objs.size + 1 → G.get? b = s2.heap.get? b := fun b ne => on b (decide_eq_true ne)
  have gone : G.get? (s.heap.objs.size + 1) = none := gone _ (decide_eq_false fun z => z rfl)
  have back : ∀ b o, G.get? b = some o → s2.heap.get? b = some o := fun b o z => by
    by_cases e : b = s.heap.objs.size + 1
    · rw [e, gone] at z
      exact nomatch z
    · exact (off b e).symm.trans z
  have J : Inv X pins σ H ⟨G, s2.gens, s2.drawn, s2.toks, s2.os⟩ := I.call' (ch := []) same (un_off (Nat.le_succ _) sub off un) (hok_off new off ok) bare fun b z => nomatch z
  exact ⟨_, _, _, _, H, .ref C, none, rfl, J, back, gone, cell, ⟨rfl, rfl, fun vs z => by cases z; rfl⟩, rfl, rfl, new, rfl, bare, raises_own T.exC T.tyC, h⟩
theorem pmk_ox0 {CX : CXT} {x : Str} {C fI : Addr} {k : Nat} {fd : FuncData} (T : OexC X.K C) (iC : PySem.W.findIn X.K (.ref C) "__init__" = some (some (.ref fI))) (tI : PySem.W.typeIn X.K (.ref fI) = some (.type "function")) (F1 : FnOk X.prog X.w X.K X.mg X.base CX k fI fd ["self"] spPass) (hr : Room (k + 1) X.A) (hb : Binds X.K fd ["self"] []) (hx : Passes CX X (fun _ _ _ => False)) (hg : Gl X x) (hm : X.mg x = some (.ref C))
    (hdb : (x == ("__debug__" : Str)) = false := by decide) : PMk X (.Call (.Name x p) [] [] pos) (fun _ H Q => Q (.ref C) none H) := pmk_ofN (pmk_ox0N T iC tI F1 hr hb hx hg hm hdb)
end
end Pt
namespace Pt
open PySem PySem.Spec PyProof.Rows L2
variable {K : PySem.W.Frag} {C : Addr} {H H' H1 H2 : Hp} {v w x y : V} {vs : List V} {d e : PyData} {ds es : List PyData}
def rSetT (K : PySem.W.Frag) (W : World) : List V → Hp → VK → Prop := fun xs H Q => ∃ (p : Addr) (ns : List Int), xs = [.ref p] ∧ SqT K H p (ns.map V.int) ∧ ns.length < 60 ∧ ∀ a c, H a = none → c ≤ ns.length → Q (.ref a) (L2.upd H a (SetO W a (fun j => decide (j ∈ ns)) c))
section
variable {X : Cx}
theorem call_setT (hc : X.calm = true) : CallR X (.type "set") (rSetT X.K X.w) := by
  intro pins s σ H xs us Q I r h
  obtain ⟨p, ns, rfl, hs, hb, q⟩ := h
  obtain ⟨its, rv, pl, hz⟩ := I.tuple hs
  rw [Vals.ref1 r]
  have hi := Vals.ints rv
  refine call_set_tupI ns (I.ok.hd hc) pl hi (Nat.lt_of_lt_of_le (show ns.length + 1 < 100 by omega) (by decide)) fun h' tk c R hc' k => ?_
  exact ⟨.ref s.heap.objs.size, _, I.laid (t' := tk) k (Nat.le_refl _) (setO_new R), rfl, q _ c (I.hok.fresh (Nat.le_refl _)) hc'⟩
theorem call_setTK (K : PySem.W.Frag) (hc : X.calm = true) (h : X.K = K := by rfl) : CallR X (.type "set") (rSetT K X.w) := h ▸ call_setT hc
end
section
variable {S : List Addr} {G : List (V × PyData)} {H0 : Hp} {σ : L2.St} {Γ : List Ct} {i j k : Nat} {c : Ct} {te ta tb tc tl ty td tv : TE} {t u : TT}
variable {D : Ends} {tu tw tz : TS} {p q f : Addr} {b : Int} {E : XK} {P : Program} {W : World}
theorem strictU : ∀ {l m : List Int}, l.Pairwise (· < ·) → m.Pairwise (· < ·) → (∀ x, x ∈ l ↔ x ∈ m) → l = m
  | [], [], _, _, _ => rfl
  | [], y :: m, _, _, h => by have := (h y).mpr List.mem_cons_self; cases this
  | x :: l, [], _, _, h => by have := (h x).mp List.mem_cons_self; cases this
  | x :: l, y :: m, hl, hm, h => by
    have l1 := List.pairwise_cons.mp hl
    have m1 := List.pairwise_cons.mp hm
    have e : x = y := by
      rcases List.mem_cons.mp ((h x).mp List.mem_cons_self) with z | z
      · exact z
      · rcases List.mem_cons.mp ((h y).mpr List.mem_cons_self) with z2 | z2
        · exact z2.symm
        · have := m1.1 x z
          have := l1.1 y z2
          omega
    subst e
    congr 1
    refine strictU l1.2 m1.2 fun z => ⟨fun hz => ?_, fun hz => ?_⟩
    · rcases List.mem_cons.mp ((h z).mp (List.mem_cons_of_mem _ hz)) with q | q
      · have := l1.1 z hz
        omega
      · exact q
    · rcases List.mem_cons.mp ((h z).mpr (List.mem_cons_of_mem _ hz)) with q | q
      · have := m1.1 z hz
        omega
      · exact q
theorem en_sortSet {l m : List Int} (h : EvC K C te σ H (.d (row l))) (hl : l.length < 60) (hm : m.Pairwise (· < ·)) (he : ∀ x, x ∈ m ↔ x ∈ l) : EvN K C (tCB (rSortedSet W) (tCons (tCB (rSetT K W) (tCons te tNil)) tNil)) σ H (iL m) := fun H1 e1 Q q =>
  h H1 e1 _ fun v H2 e2 a2 => by
    obtain ⟨a, rfl, sa⟩ := row_of a2
    refine ⟨a, l, rfl, sa.sq, hl, fun p c hp hc => ⟨p, _, c, rfl, upd_same, by omega, fun ns p' hns hmem hlen hp' => ?_⟩⟩
    have en : ns = m := strictU hns hm fun x => by rw [hmem, he]; simp
    have h1 : H2 p' = none := by
      by_cases z : p' = p
      · rw [z]; exact hp
      · rw [upd_ne z] at hp'; exact hp'
    have e3 : Same H2 (L2.upd H2 p (SetO W p (fun j => decide (j ∈ l)) c)) := same_new hp
    rw [en]
    exact q p' _ (e2.free h1) ((e2.trans e3).trans (same_new hp')) ⟨rfl, _, upd_same, TdAll.of_iL m⟩
theorem lexAt_shift {e r : Nat → Bool} {z : Bool} : ∀ (k i : Nat), Ob.lexAt e r z (i + 1) k = Ob.lexAt (fun j => e (j + 1)) (fun j => r (j + 1)) z i k
  | 0, i => rfl
  | k + 1, i => by rw [Ob.lexAt_succ, Ob.lexAt_succ, lexAt_shift k (i + 1)]
theorem lex_gt : ∀ ns ms : List Int, Ob.lexAt (fun j => decide (ns.getD j 0 = ms.getD j 0)) (fun j => decide (ms.getD j 0 < ns.getD j 0)) (decide (ns.length > ms.length)) 0 (min ns.length ms.length) = decide (ms < ns)
  | [], ms => by
    rw [show min ([] : List Int).length ms.length = 0 by simp, Ob.lexAt_zero]
    rw [decide_eq_false (p := ([] : List Int).length > ms.length) (by simp), decide_eq_false (p := ms < []) (List.not_lt_nil _)]
  | x :: ns, [] => by
    rw [show min (x :: ns).length ([] : List Int).length = 0 by simp, Ob.lexAt_zero]
    rw [decide_eq_true (p := (x :: ns).length > ([] : List Int).length) (by simp), decide_eq_true (p := ([] : List Int) < x :: ns) (List.nil_lt_cons _ _)]
  | x :: ns, y :: ms => by
    rw [show min (x :: ns).length (y :: ms).length = min ns.length ms.length + 1 by simp, Ob.lexAt_succ, lexAt_shift]
    have ih := lex_gt ns ms
    by_cases e : x = y
    · subst e
      rw [if_pos (by simp)]
      have z : decide (ns.length > ms.length) = decide ((x :: ns).length > (x :: ms).length) := by simp
      rw [z] at ih
      refine Eq.trans ih ?_
      have q : (x :: ms < x :: ns) ↔ ms < ns := by rw [List.cons_lt_cons_iff]; simp
      exact decide_eq_decide.mpr q.symm
    · rw [if_neg (by simpa using e)]
      have q : (y :: ms < x :: ns) ↔ y < x := by
        rw [List.cons_lt_cons_iff]
        constructor
        · rintro (z | ⟨z, _⟩)
          · exact z
          · exact absurd z.symm e
        · exact .inl
      exact decide_eq_decide.mpr q.symm
def rGtT (K : PySem.W.Frag) : R2 := fun x y H Q => ∃ (a b : Addr) (ns ms : List Int), x = .ref a ∧ y = .ref b ∧ SqT K H a (ns.map V.int) ∧ SqT K H b (ms.map V.int) ∧ Q (.bl (decide (ms < ns))) H
theorem op_gtT {X : Cx} (hu : X.A.units < cLine) : OpR X (compareOp .Gt) (rGtT X.K) := by
  rintro pins s σ H x y v u Q I rx ry ⟨a, b, ns, ms, rfl, rfl, ta, tb, q⟩
  obtain rfl : v = .ref a := rx
  obtain rfl : u = .ref b := ry
  obtain ⟨_, r1, p1, _⟩ := I.tuple ta
  obtain ⟨_, r2, p2, _⟩ := I.tuple tb
  have c1 := int_cells (Vals.ints r1)
  have c2 := int_cells (Vals.ints r2)
  refine Ob.RcOp.tuples_gt (e := fun j => decide (ns.getD j 0 = ms.getD j 0)) (r := fun j => decide (ms.getD j 0 < ns.getD j 0)) p1 p2 hu (fun j h1 h2 => ?_) (fun j h1 h2 _ => ?_) X.prog X.w X.xe _ ?_
  · rw [(c1 j h1).choose_spec, (c2 j h2).choose_spec]
    exact eq_cells _ _ _ _
  · rw [(c1 j h1).choose_spec, (c2 j h2).choose_spec]
    exact Ob.RcOp.gt_int _ _ _ _
  · rw [List.size_toArray, List.size_toArray, (Vals.ints r1).length, (Vals.ints r2).length, lex_gt]
    exact ⟨.bl _, H, I, rfl, q⟩
theorem op_gtTK {X : Cx} (K : PySem.W.Frag) (hu : X.A.units < cLine) (h : X.K = K := by rfl) : OpR X (compareOp .Gt) (rGtT K) := h ▸ op_gtT hu
theorem ev_gtR {l m : List Int} (ha : EvC K C ta σ H (.d (row l))) (hb : EvC K C tb σ H (.d (row m))) : EvC K C (tOp (rGtT K) ta tb) σ H (.d (.bool (decide (m < l)))) :=
  ev_op2 ha hb fun H1 _ x y a1 a2 Q q => by
    obtain ⟨a, rfl, sa⟩ := row_of a1
    obtain ⟨b, rfl, sb⟩ := row_of a2
    exact ⟨a, b, l, m, rfl, rfl, sa.sq, sb.sq, q _ H1 (Same.refl H1) (.bl _)⟩
def rListF (P : Program) (W : World) : List V → Hp → VK → Prop := fun xs H Q => ∃ (f : Addr) (en : List En), xs = [.ref f] ∧ H f = some (DTo P W f en) ∧ (∀ q ∈ ksOf en, SqF H q.1 q.2) ∧ en.length < 10000000 ∧ ∀ p, H p = none → Q (.ref p) (L2.upd H p (.lst (en.map fun e => V.ref e.2.2)))
theorem list_keys {X : Cx} (hc : X.calm = true) {pins : List (Addr × Obj)} {σ : L2.St} {H : Hp} {s : Shared} {Q : VK} {d : Addr} {α κ : Type} [DecidableEq κ] {knd : HeapKind X.prog X.w κ} {R : α → κ × Addr × Value → Prop} {en : List α} {ks : List (κ × Addr × Value)} (key : α → V) (rel : ∀ a q, R a q → RelV (key a) (.ref q.2.1)) (I : Inv X pins σ H s) (main : (d == sysModules) = false) (r : Paired R en ks)
    (cells : ∃ o ent ep, s.heap.get? d = some o ∧ o.ExactDict ∧ o.data = .dict ent ep ∧ ent.toList = ks.map (entryOfKey knd)) (few : en.length < 10000000) (q : ∀ p, H p = none → Q (.ref p) (L2.upd H p (.lst (en.map key)))) : wpAny (model X.prog X.w) X.A (call (.type "list") [.ref d]) (EP X pins σ Q) X.xe s := by
  obtain ⟨o, ent, ep, here, plain, dat, ents⟩ := cells
  have len : ent.size = en.length := (size_of_entries ents).trans r.length.symm
  have line := sizeLine_eq
  refine PySem.W.kdl_call (kdl_raw main plain dat) (I.ok.hd hc) here (by omega) fun h' tk got c kept new ⟨size, took⟩ => ?_
  have read : Vals (en.map key) got.toList := vals_of_at (by rw [List.length_map, Array.length_toList]; exact (size.trans len).symm) fun j x u hx hu => by
    rw [List.getElem?_map] at hx
    obtain ⟨a, ha, rfl⟩ := Option.map_eq_some_iff.mp hx
    obtain ⟨b, hb, rb⟩ := L2.paired_get r ha
    obtain ⟨cell, hcell, rfl⟩ := took j u (by rw [← Array.getElem?_toList]; exact hu)
    have z := entry_at ents j
    rw [hcell, hb] at z
    obtain rfl : cell = entryOfKey knd b := Option.some.inj z
    exact rel a b rb
  exact ⟨.ref _, _, I.laid (t' := tk) (o := .lst (en.map key)) kept (Nat.le_refl _) ⟨by rw [List.length_map]; omega, got.toList, c, read, new⟩, rfl, q _ (I.hok.fresh (Nat.le_refl _))⟩
theorem call_listF {X : Cx} (hc : X.calm = true) : CallR X (.type "list") (rListF X.prog X.w) := fun pins s σ H xs us Q I r ⟨d, en, ex, hd, hk, few, q⟩ => by
  subst ex
  obtain ⟨u, rfl, ru⟩ := vals1 r
  obtain rfl : u = .ref d := ru
  obtain ⟨main, ks, rel, o, ent, ep, h1, h2, h3, h4, _⟩ := dtf I hd hk
  exact list_keys hc (fun e : En => .ref e.2.2) (fun a b z => congrArg Value.ref z.2.1) I main (show Paired _ en ks from rel) ⟨o, ent, ep, h1, h2, h3, h4⟩ few q
theorem td_keys : ∀ {en : List En}, (∀ q ∈ ksOf en, SqF H q.1 q.2) → TdAll K H (en.map fun e => V.ref e.2.2) (en.map fun e => row e.1)
  | [], _ => .nil
  | e :: en, h => .cons (.tup (h (e.2.2, e.1.map V.int) (by simp [ksOf])) (TdAll.of_iL e.1)) (td_keys fun q m => h q (by simp only [ksOf, List.map_cons, List.mem_cons] at m ⊢; exact .inr m))
theorem idxOf_le_at : ∀ (L : List (List Int)) (m : Nat) (h : m < L.length), L.idxOf L[m] ≤ m
  | x :: L, 0, _ => by simp
  | x :: L, m + 1, h => by
    have hm : m < L.length := by simpa using h
    have ih := idxOf_le_at L m hm
    rw [List.idxOf_cons]
    show (bif x == L[m] then 0 else List.idxOf L[m] L + 1) ≤ m + 1
    generalize L[m] = z at ih ⊢
    cases x == z
    · exact Nat.succ_le_succ ih
    · exact Nat.zero_le _
theorem shaped_rows (L : List (List Int)) : SeqAt.shaped (.list (L.map row)) = true := by
  show ((PyData.list (L.map row)).canLay0 && decide ((PyData.list (L.map row)).depth ≤ 64)) = true
  have h1 := depth_rows L
  rw [Bool.and_eq_true]
  refine ⟨?_, decide_eq_true ?_⟩
  · simp only [PyData.canLay0]; exact lay_rows L
  · simp only [PyData.depth]; omega
theorem ev_indexR {L : List (List Int)} {r : List Int} {p : Addr} (ha : EvC K C ta σ H (.l p (L.map row))) (hb : EvC K C tb σ H (.d (row r))) (hr : r ∈ L) : EvC K C (tBM K "list" (rIndexD K) ta (tCons tb tNil)) σ H (.d (.int (L.idxOf r : Nat))) := fun H1 e1 Q q =>
  ha H1 e1 _ fun v H2 e2 a2 => by
    obtain ⟨rfl, xs, s, t⟩ := a2
    refine ⟨.inl ⟨rfl, xs, SqL.of s⟩, hb H2 (e1.trans e2) _ fun y H3 e3 a3 => ?_⟩
    have hlt := List.idxOf_lt_length_of_mem hr
    refine ⟨p, y, row r, L.map row, L.idxOf r, row r, rfl, rfl, .lst (SqL.of (e3 _ _ s)) (TdAll.dp _ _ (TdAll.mono (.of e3) _ _ t)), Td.dp _ _ a3, shaped_rows L, shaped_row r, ?_, ?_, fun m z' hm hz' => ?_, q _ H3 (e2.trans e3) (.int _)⟩
    · rw [List.getElem?_map, List.getElem?_eq_getElem hlt, List.getElem_idxOf]
      rfl
    · rw [eqv_row]; simp
    · have hml : m < L.length := by omega
      rw [List.getElem?_map, List.getElem?_eq_getElem hml] at hz'
      have e : z' = row L[m] := (Option.some.inj hz').symm
      rw [e, eqv_row]
      refine decide_eq_false fun z => ?_
      have h2 : L.idxOf r ≤ m := by
        rw [← z]
        exact idxOf_le_at L m hml
      omega
theorem mt_indexDK {X : Cx} (K : PySem.W.Frag) (hu : X.A.units + 65 < cLine) (h : X.K = K := by rfl) : MtR X "list.index" (rIndexD K) := h ▸ mt_indexD hu
theorem dataLt_row (a b : List Int) : PySem.W.dataLt (row a) (row b) = decide (a < b) := by
  rw [show row a = .tuple (iL a) from rfl, show row b = .tuple (iL b) from rfl, PySem.W.dataLt_tuple]
  exact PySem.W.dataLt_ints a b
def leR (a b : List Int) : Bool := decide (¬ b < a)
theorem sortedD_rows (L : List (List Int)) : sortedD (L.map row) = (L.mergeSort leR).map row := by
  unfold sortedD
  refine (List.map_mergeSort fun a _ b _ => ?_).symm
  have h : PySem.W.dataLe false id (row a) (row b) = !PySem.W.dataLt (row b) (row a) := rfl
  rw [h, dataLt_row]
  unfold leR
  by_cases z : b < a <;> simp [z]
theorem alike_iL : ∀ a b : List Int, PySem.W.alikeAll (iL a) (iL b) = true
  | [], _ => by simp [iL, PySem.W.alikeAll]
  | _ :: _, [] => by simp [iL, PySem.W.alikeAll]
  | x :: a, y :: b => by
    have ih := alike_iL a b
    simp only [iL] at ih
    simp [iL, PySem.W.alikeAll, PySem.W.alike, ih]
theorem rows_alike (L : List (List Int)) : PySem.W.AllAlike (L.map row) := fun x hx y hy => by
  obtain ⟨p, _, rfl⟩ := List.mem_map.mp hx
  obtain ⟨q, _, rfl⟩ := List.mem_map.mp hy
  show PySem.W.alikeAll (iL p) (iL q) = true
  exact alike_iL p q
theorem rows_sortable {L : List (List Int)} (h : ∀ l ∈ L, l ≠ []) : PySem.W.Sortable (L.map row) := .inl fun x hx => by
  obtain ⟨p, hp, rfl⟩ := List.mem_map.mp hx
  cases p with
  | nil => exact absurd rfl (h _ hp)
  | cons y t => exact ⟨_, _, rfl⟩
theorem row_depth (l : List Int) : (row l).depth ≤ 8 := by
  have := depth_iL l
  simp only [row, PyData.depth]
  omega
theorem leR_trans (a b c : List Int) (h1 : leR a b = true) (h2 : leR b c = true) : leR a c = true := by
  unfold leR at *
  rw [decide_eq_true_eq] at *
  exact List.le_trans (l₁ := a) (l₂ := b) (l₃ := c) h1 h2
theorem leR_total (a b : List Int) : (leR a b || leR b a) = true := by
  unfold leR
  rw [Bool.or_eq_true, decide_eq_true_eq, decide_eq_true_eq]
  exact List.le_total a b
theorem ev_eqLN {p : Addr} {k j : List Int} (ha : EvC K C ta σ H (.l p (iL k))) (hb : EvN K C tb σ H (iL j)) : EvC K C (tOp (rEqD K) ta tb) σ H (.d (.bool (decide (k = j)))) := fun H1 e1 Q q =>
  ha H1 e1 _ fun a H2 e2 a2 => hb H2 (e1.trans e2) _ fun b H3 _ e3 a3 => by
    obtain ⟨rfl, xs, s, t⟩ := CtAt.mono e3 a2
    obtain ⟨_, ys, s', t'⟩ := a3
    refine ⟨_, _, .lst (SqL.of s) (TdAll.dp _ _ t), .lst (SqL.of s') (TdAll.dp _ _ t'), shaped_list k, shaped_list j, ?_⟩
    rw [eqv_list]
    exact q _ H3 (e2.trans e3) (.bl _)
theorem shaped_rowsT (L : List (List Int)) : SeqAt.shaped (.tuple (L.map row)) = true := by
  show ((PyData.tuple (L.map row)).canLay0 && decide ((PyData.tuple (L.map row)).depth ≤ 64)) = true
  have h1 := depth_rows L
  rw [Bool.and_eq_true]
  refine ⟨?_, decide_eq_true ?_⟩
  · simp only [PyData.canLay0]; exact lay_rows L
  · simp only [PyData.depth]; omega
theorem eqvAll_rows : ∀ L : List (List Int), PyData.eqvAll (L.map row) (L.map row) = true
  | [] => by simp [PyData.eqvAll]
  | l :: L => by
    have ih := eqvAll_rows L
    have e : PyData.eqv (row l) (row l) = true := by rw [eqv_row]; simp
    simp only [List.map_cons, PyData.eqvAll, e, ih, Bool.and_self]
theorem eqv_rowsT (L : List (List Int)) : PyData.eqv (.tuple (L.map row)) (.tuple (L.map row)) = true := by
  simp only [PyData.eqv]
  exact eqvAll_rows L
theorem q_parDD {d1 d2 : PyData} (w : Wd K C S G H0 H σ Γ) (ha : EvC K C ta σ H (.d d1)) (hb : EvC K C tb σ H (.d d2)) (k : ∀ σ1 H1, Wd K C S G H0 H1 σ1 ((Γ.set i (.d d1)).set j (.d d2)) → tz D σ1 H1) : tSeq (tPar i j (tCons ta (tCons tb tNil))) tz D σ H :=
  ha H (Same.refl H) _ fun u H1 e1 a1 => hb H1 e1 _ fun v H2 e2 a2 => ⟨u, v, rfl, k _ H2 ((((w.mono e1).mono e2).set i (c := .d d1) (CtAt.mono (c := .d d1) e2 a1)).set j (c := .d d2) a2)⟩
theorem q_drawGt {m : Int} (w : Wd K C S G H0 H σ Γ) (hi : Γ[i]? = some (.h p q)) (h1 : 1 ≤ b) (h2 : b ≤ 1000000) (k : ∀ (z : Bool) σ1 H1, Wd K C S G H0 H1 σ1 (Γ.set j (.d (.bool z))) → tz D σ1 H1) :
    tSeq (tAsg (tOp (rI0 fun i j => V.bl (decide (j < i))) (tCall (spH K C) [] E (tCons (tVar i) (tCons (tC (.int b)) tNil))) (tC (.int m))) (gName j)) tz D σ H :=
  dr_next w hi ev_int h1 h2 fun r H1 r0 r1 w1 => ⟨r, m, rfl, rfl, k _ _ H1 (w1.set j (v := .bl _) (c := .d (.bool _)) (Td.bl _))⟩
end
end Pt
namespace Pt
open PySem PySem.Spec PyProof.Rows L2
variable {K : PySem.W.Frag} {C : Addr} {H H' H1 H2 : Hp} {v w x y : V} {vs : List V} {d e : PyData} {ds es : List PyData}
variable {S : List Addr} {G : List (V × PyData)} {H0 : Hp} {σ : L2.St} {Γ : List Ct} {i j k l : Nat} {c : Ct} {te ta tb tc tl ty td tv : TE} {t u : TT}
variable {D : Ends} {tu tw tz : TS} {p q f : Addr} {b : Int} {E : XK} {P : Program} {W : World}
def kvP (L : List (Int × Int)) : List (Key × V) := L.map fun q => (.inl q.1, .int q.2)
abbrev dK (p : Addr) (kvs : List (Key × V)) : Ct := .o p (.dK kvs) []
def rDictP (K : PySem.W.Frag) : List V → Hp → VK → Prop := fun xs H Q => ∃ (a : Addr) (ps : List Addr) (kvs : List (Key × V)), xs = [.ref a] ∧ SqL K H a (ps.map V.ref) ∧ Paired (fun p kv => SqT K H p [kV kv.1, kv.2]) ps kvs ∧ ∀ p, H p = none → Q (.ref p) (L2.upd H p (.dK (mergeK [] kvs)))
theorem call_dictPK {X : Cx} (K : PySem.W.Frag) (hc : X.calm = true) (h : X.K = K := by rfl) : CallR X (.type "dict") (rDictP K) := h ▸ call_dictP hc
theorem pairs_td : ∀ {L : List (Int × Int)} {xs : List V}, TdAll K H xs (L.map pairD) → ∃ bs : List Addr, xs = bs.map V.ref ∧ Paired (fun p kv => SqT K H p [kV kv.1, kv.2]) bs (kvP L)
  | [], _, h => by cases h; exact ⟨[], rfl, .nil⟩
  | q :: L, _, h => by
    cases h with
    | cons a r =>
      obtain ⟨bs, rfl, pr⟩ := pairs_td r
      obtain ⟨b, ys, rfl, s, t⟩ := Td.tup_of a
      have ey : ys = [.int q.1, .int q.2] := TdAll.iL_of (l := [q.1, q.2]) t
      subst ey
      exact ⟨b :: bs, rfl, .cons s.sq pr⟩
theorem look_merge (k : Key) : ∀ (more acc : List (Key × V)), (more.map (·.1)).Nodup → valV (mergeK acc more) k = (valV more k).or (valV acc k)
  | [], acc, _ => by
    show valV acc k = _
    rw [valV_nil, Option.none_or]
  | p :: r, acc, hn => by
    have hn' := List.nodup_cons.mp (show (p.1 :: r.map (·.1)).Nodup from hn)
    show valV (mergeK (putK acc p.1 p.2) r) k = _
    rw [look_merge k r _ hn'.2, valV_put]
    by_cases e : k = p.1
    · rw [if_pos e, valV_pos e.symm]
      have z : valV r k = none := by
        unfold valV
        rw [Option.map_eq_none_iff, List.find?_eq_none]
        intro x hx hz
        exact hn'.1 (List.mem_map.mpr ⟨x, hx, by rw [← e]; simpa using hz⟩)
      rw [z, Option.none_or, Option.some_or]
    · rw [if_neg e, valV_neg (fun z => e z.symm)]
theorem look_pairs (x : Int) : ∀ L : List (Int × Int), valV (kvP L) (.inl x) = ((L.find? fun q => decide (q.1 = x)).map fun q => V.int q.2)
  | [] => rfl
  | q :: L => by
    have ih := look_pairs x L
    by_cases e : q.1 = x
    · rw [List.find?_cons_of_pos (by simpa using e)]
      exact valV_pos (show (Sum.inl q.1 : Key) = .inl x by rw [e])
    · rw [List.find?_cons_of_neg (by simpa using e), ← ih]
      exact valV_neg (fun z => e (Sum.inl.inj z))
theorem look_dict {L : List (Int × Int)} (h : (L.map (·.1)).Nodup) (x : Int) : valV (mergeK [] (kvP L)) (.inl x) = ((L.find? fun q => decide (q.1 = x)).map fun q => V.int q.2) := by
  rw [look_merge, valV_nil, Option.or_none, look_pairs]
  have e : (kvP L).map (·.1) = (L.map (·.1)).map Sum.inl := by unfold kvP; rw [List.map_map, List.map_map]; rfl
  rw [e]
  unfold List.Nodup at h ⊢
  rw [List.pairwise_map]
  exact h.imp fun hab z => hab (Sum.inl.inj z)
theorem q_asgK {L : List (Int × Int)} (w : Wd K C S G H0 H σ Γ) (h : EvN K C te σ H (L.map pairD)) (k : ∀ p σ1 H1, H0 p = none → Wd K C S G H0 H1 σ1 (Γ.set i (dK p (mergeK [] (kvP L)))) → tz D σ1 H1) : tSeq (tAsg (tCB (rDictP K) (tCons te tNil)) (gName i)) tz D σ H :=
  h H (Same.refl H) _ fun a H1 ha e1 a1 => by
    obtain ⟨_, xs, s, t⟩ := a1
    obtain ⟨bs, rfl, pr⟩ := pairs_td t
    refine ⟨a, bs, kvP L, rfl, SqL.of s, pr, fun p hp => k p _ _ ((w.mono e1).fresh0 hp) ((w.mono e1).setO i (same_new hp) hp ⟨rfl, upd_same, True.intro, fun q m => by cases m⟩)⟩
theorem ev_notInK {kvs : List (Key × V)} {n : Int} (ha : EvC K C ty σ H (.d (.int n))) (hb : EvC K C td σ H (dK p kvs)) : EvC K C (tDNotIn ty td) σ H (.d (.bool (!(valV kvs (.inl n)).isSome))) := fun H1 e1 Q k =>
  ha H1 e1 _ fun y H2 e2 a2 => hb H2 (e1.trans e2) _ fun x H3 e3 a3 => by
    obtain ⟨rfl, hf, _, _⟩ := a3
    rw [Td.int_of a2]
    exact ⟨p, _, rfl, DGet.k (k := Sum.inl n) hf, k _ H3 (e2.trans e3) (.bl _)⟩
theorem ev_inK {kvs : List (Key × V)} {n : Int} (ha : EvC K C ty σ H (.d (.int n))) (hb : EvC K C td σ H (dK p kvs)) : EvC K C (tDIn ty td) σ H (.d (.bool (valV kvs (.inl n)).isSome)) := fun H1 e1 Q k =>
  ha H1 e1 _ fun y H2 e2 a2 => hb H2 (e1.trans e2) _ fun x H3 e3 a3 => by
    obtain ⟨rfl, hf, _, _⟩ := a3
    rw [Td.int_of a2]
    exact ⟨p, _, rfl, DGet.k (k := Sum.inl n) hf, k _ H3 (e2.trans e3) (.bl _)⟩
theorem ev_getK {kvs : List (Key × V)} {n m : Int} (hb : EvC K C td σ H (dK p kvs)) (ha : EvC K C ty σ H (.d (.int n))) (h : valV kvs (.inl n) = some (.int m)) : EvC K C (tDGet td ty) σ H (.d (.int m)) := fun H1 e1 Q k =>
  hb H1 e1 _ fun x H2 e2 a2 => ha H2 (e1.trans e2) _ fun y H3 e3 a3 => by
    obtain ⟨rfl, hf, _, _⟩ := CtAt.mono e3 a2
    rw [Td.int_of a3]
    exact ⟨p, .int m, rfl, by rw [← h]; exact DGet.k (k := Sum.inl n) hf, k _ H3 (e2.trans e3) (.int _)⟩
theorem en_lcPN {L : List (Int × Int)} (hij : i ≠ j) (w : Wd K C S G H0 H σ Γ) (hl : EvN K C tl σ H (L.map pairD)) (f : Int × Int → Bool) (g : Int × Int → PyData) (hz : L.length < 10000000)
    (ht : ∀ p ∈ L, ∀ σ1 H1, Wd K C S G H0 H1 σ1 ((((Γ.set j .u).set i .u).set i (.d (.int p.1))).set j (.d (.int p.2))) → EvT t σ1 H1 (f p)) (he : ∀ p ∈ L, ∀ σ1 H1, Wd K C S G H0 H1 σ1 ((((Γ.set j .u).set i .u).set i (.d (.int p.1))).set j (.d (.int p.2))) → f p = true → EvC K C te σ1 H1 (.d (g p))) :
    EvN K C (tLc (iList K tl) (gTup K 2 (gCons (gName i) (gCons (gName j) gNil))) t te [i, j]) σ H (kept f g L) := fun H1 e1 Q q => hl H1 e1 _ fun p H2 hp e2 a => by
  have z : EvC K C (tC (.ref p)) σ H2 (.s p (L.map pairD)) := fun H3 e3 Q q => q _ H3 (Same.refl H3) (CtAt.mono e3 (show CtAt K C H2 (.ref p) (.s p (L.map pairD)) from a))
  exact en_lcP (te := te) (t := t) hij (w.mono (e1.trans e2)) z f g hz ht he H2 (Same.refl H2) Q fun p' H3 hp' e3 a3 => q p' H3 (e2.free hp') (e2.trans e3) a3
theorem q_unp3D {d1 d2 d3 : PyData} (w : Wd K C S G H0 H σ Γ) (h : EvC K C te σ H (.d (.tuple [d1, d2, d3]))) (k : ∀ σ1 H1, Wd K C S G H0 H1 σ1 (((Γ.set i (.d d1)).set j (.d d2)).set l (.d d3)) → tz D σ1 H1) : tSeq (tAsg te (gTup K 3 (gCons (gName i) (gCons (gName j) (gCons (gName l) gNil))))) tz D σ H :=
  h H (Same.refl H) _ fun v H1 e1 a1 => by
    obtain ⟨a, xs, rfl, s, t⟩ := Td.tup_of a1
    cases t with
    | cons t1 t =>
      cases t with
      | cons t2 t =>
        cases t with
        | cons t3 t =>
          cases t
          exact ⟨a, _, rfl, s.sq, rfl, _, _, rfl, _, _, rfl, _, _, rfl, rfl, k _ H1 ((((w.mono e1).set i (c := .d d1) t1).set j (c := .d d2) t2).set l (c := .d d3) t3)⟩
theorem q_unp4D {m : Nat} {d1 d2 d3 d4 : PyData} (w : Wd K C S G H0 H σ Γ) (h : EvC K C te σ H (.d (.tuple [d1, d2, d3, d4]))) (k : ∀ σ1 H1, Wd K C S G H0 H1 σ1 ((((Γ.set i (.d d1)).set j (.d d2)).set l (.d d3)).set m (.d d4)) → tz D σ1 H1) : tSeq (tAsg te (gTup K 4 (gCons (gName i) (gCons (gName j) (gCons (gName l) (gCons (gName m) gNil)))))) tz D σ H :=
  h H (Same.refl H) _ fun v H1 e1 a1 => by
    obtain ⟨a, xs, rfl, s, t⟩ := Td.tup_of a1
    cases t with
    | cons t1 t =>
      cases t with
      | cons t2 t =>
        cases t with
        | cons t3 t =>
          cases t with
          | cons t4 t =>
            cases t
            exact ⟨a, _, rfl, s.sq, rfl, _, _, rfl, _, _, rfl, _, _, rfl, _, _, rfl, rfl, k _ H1 (((((w.mono e1).set i (c := .d d1) t1).set j (c := .d d2) t2).set l (c := .d d3) t3).set m (c := .d d4) t4)⟩
theorem s_pop {s : Nat} (w : Wd K C S G H0 H σ Γ) (hi : Γ[i]? = some (.l p ds)) (h : EvC K C te σ H (.d (.int (s : Nat)))) (hs : s < ds.length) (hl : ds.length < 10000000) (k : ∀ H1, Wd K C S G H0 H1 σ (Γ.set i (.l p (ds.eraseIdx s))) → D.nx σ H1) :
    tDrop (tBM K "list" rPopAt (tVar i) (tCons te tNil)) D σ H := by
  obtain ⟨v, e1, rfl, xs, e2, e3⟩ := w.get hi
  refine ⟨.ref p, e1, .inl ⟨rfl, xs, SqL.of e2⟩, h H (Same.refl H) _ fun y H1 e b => ?_⟩
  rw [Td.int_of b]
  have hlen := e3.length
  have hs' : s < xs.length := by omega
  refine ⟨p, xs, (s : Nat), s, xs[s], rfl, rfl, e _ _ e2, by omega, by omega, ?_, List.getElem?_eq_getElem hs', ?_⟩
  · exact (ixN_seq (n := xs.length) (by unfold ixN; rw [if_pos (by omega), if_pos (by omega)]; simp)).1
  · exact k _ ((w.mono e).chg hi (TdAll.mono (.of e) _ _ (e3.erase s)))
theorem q_pop {s : Nat} (w : Wd K C S G H0 H σ Γ) (hi : Γ[i]? = some (.l p ds)) (h : EvC K C te σ H (.d (.int (s : Nat)))) (hs : s < ds.length) (hl : ds.length < 10000000) (k : ∀ H1, Wd K C S G H0 H1 σ (Γ.set i (.l p (ds.eraseIdx s))) → tz D σ H1) :
    tSeq (tDrop (tBM K "list" rPopAt (tVar i) (tCons te tNil))) tz D σ H := s_pop (D := { D with nx := tz D }) w hi h hs hl k
theorem eqv_nil (ds : List PyData) : PyData.eqv (.list ds) (.list []) = ds.isEmpty := by
  simp only [PyData.eqv]
  cases ds <;> simp [PyData.eqvAll]
theorem ev_eqNil (ha : EvC K C ta σ H (.l p ds)) (hs : SeqAt.shaped (.list ds) = true) : EvC K C (tOp (rEqD K) ta (tLst tNil)) σ H (.d (.bool ds.isEmpty)) := fun H1 e1 Q q =>
  ha H1 e1 _ fun a H2 e2 a2 => (en_lst ed_nil (Nat.zero_le _) : EvN K C (tLst tNil) σ H []) H2 (e1.trans e2) _ fun b H3 _ e3 a3 => by
    obtain ⟨rfl, xs, s, t⟩ := CtAt.mono e3 a2
    obtain ⟨_, ys, s', t'⟩ := a3
    refine ⟨_, _, .lst (SqL.of s) (TdAll.dp _ _ t), .lst (SqL.of s') (TdAll.dp _ _ t'), hs, shaped_list [], ?_⟩
    rw [eqv_nil]
    exact q _ H3 (e2.trans e3) (.bl _)
theorem ev_eqNilN (ha : EvN K C ta σ H ds) (hs : SeqAt.shaped (.list ds) = true) : EvC K C (tOp (rEqD K) ta (tLst tNil)) σ H (.d (.bool ds.isEmpty)) := fun H1 e1 Q q =>
  ha H1 e1 _ fun a H2 _ e2 a2 => (en_lst ed_nil (Nat.zero_le _) : EvN K C (tLst tNil) σ H []) H2 (e1.trans e2) _ fun b H3 _ e3 a3 => by
    obtain ⟨_, xs, s, t⟩ := CtAt.mono e3 a2
    obtain ⟨_, ys, s', t'⟩ := a3
    refine ⟨_, _, .lst (SqL.of s) (TdAll.dp _ _ t), .lst (SqL.of s') (TdAll.dp _ _ t'), hs, shaped_list [], ?_⟩
    rw [eqv_nil]
    exact q _ H3 (e2.trans e3) (.bl _)
theorem ev_neNilN (ha : EvN K C ta σ H ds) (hs : SeqAt.shaped (.list ds) = true) : EvC K C (tOp (rNeD K) ta (tLst tNil)) σ H (.d (.bool (!ds.isEmpty))) := by
  rw [← eqv_nil]
  exact ev_neN ha (en_lst ed_nil (Nat.zero_le _)) hs (shaped_list [])
theorem shaped_pairsL (ps : List (Int × Int)) : SeqAt.shaped (.list (ps.map pairD)) = true := by
  show ((PyData.list (ps.map pairD)).canLay0 && decide ((PyData.list (ps.map pairD)).depth ≤ 64)) = true
  have h1 := depth_pairs ps
  rw [Bool.and_eq_true]
  refine ⟨?_, decide_eq_true ?_⟩
  · simp only [PyData.canLay0]; exact lay_pairs ps
  · simp only [PyData.depth]; omega
theorem dr_callF {A : List Ag → Prop} {R : List Ag → PyData → Prop} {as : List Ag} {ts : TA} (w : Wd K C S G H0 H σ Γ) (hi : Γ[i]? = some (.h p q)) (hs : EvA K C ts σ H as) (hA : A as) {Q : VK} (k : ∀ v d H', R as d → (∀ (c : Ct) (x : V), c.adr = [] → CtAt K C H x c → CtAt K C H' x c) → Wd K C S G H0 H' σ Γ → Td K H' v d → Q v H') :
    tCall (spDr K C A R) [] E (tCons (tVar i) ts) σ H Q := by
  obtain ⟨v, e, a⟩ := w.get hi
  obtain ⟨rfl, ne, s0, k0, cs, h1, h2, _⟩ := id a
  have l : LT [p, q] H := fun a m => by
    have e : a = p ∨ a = q := by simpa using m
    rcases e with e | e
    · subst e; exact ⟨_, h1, True.intro⟩
    · subst e; exact ⟨_, h2, True.intro⟩
  exact ⟨.ref p, e, hs H (Same.refl H) _ fun ws H2 e2 b2 => ⟨p, q, ws, as, by rw [List.append_nil], CtAt.mono e2 a, b2, hA, fun v d H' r f ct td => k v d H' r (fun c x hc hx => by
    have l2 : LT [p, q] H2 := fun a m => let ⟨u, h, z⟩ := l a m; ⟨u, e2 _ _ h, z⟩
    exact (CtAt.mono e2 hx).fr l2 f fun a m => by rw [hc] at m; cases m) ((w.mono e2).drawn hi f ct) td⟩⟩
theorem q_parDr2 {m : Nat} {b1 b2 : Int} {E1 E2 : XK} (w : Wd K C S G H0 H σ Γ) (hi : Γ[m]? = some (.h p q)) (hb1 : ∀ H1, Wd K C S G H0 H1 σ Γ → EvC K C ta σ H1 (.d (.int b1))) (hb2 : ∀ H1, Wd K C S G H0 H1 σ Γ → EvC K C tb σ H1 (.d (.int b2))) (h1 : 1 ≤ b1) (h2 : b1 ≤ 1000000) (h3 : 1 ≤ b2) (h4 : b2 ≤ 1000000)
    (k : ∀ (r s : Int) σ1 H1, 0 ≤ r → r < b1 → 0 ≤ s → s < b2 → Wd K C S G H0 H1 σ1 ((Γ.set i (.d (.int r))).set j (.d (.int s))) → tz D σ1 H1) :
    tSeq (tPar i j (tCons (tCall (spH K C) [] E1 (tCons (tVar m) (tCons ta tNil))) (tCons (tCall (spH K C) [] E2 (tCons (tVar m) (tCons tb tNil))) tNil))) tz D σ H :=
  dr_next w hi (hb1 H w) h1 h2 fun r H1 r0 r1 w1 => dr_next w1 hi (hb2 H1 w1) h3 h4 fun s H2 s0 s1 w2 => ⟨.int r, .int s, rfl, k r s _ H2 r0 r1 s0 s1 ((w2.set i (v := .int r) (c := .d (.int r)) (Td.int r)).set j (v := .int s) (c := .d (.int s)) (Td.int s))⟩
end Pt
set_option maxRecDepth 10000000
namespace K1
open PySem PySem.Spec PyProof.Rows L2 Pt
def topS (i : Nat) : Stmt := PySem.Challenge.pw_placetrade_k16_whole_parts_of_rows.main.body.getD i (.Pass ⟨0, 0, 0, 0⟩)
abbrev s_TradeError___init__ : Stmt := inClass (topS 1) 0
abbrev N_TradeError___init__ : List Str := ["self"]
theorem sc_TradeError___init__ : FnScope N_TradeError___init__ ["self"] (defScope s_TradeError___init__) := ⟨rfl, rfl, rfl, by decide +kernel, rfl, by decide +kernel, by decide +kernel⟩
abbrev s_BadPairs___init__ : Stmt := inClass (topS 3) 0
abbrev N_BadPairs___init__ : List Str := ["self", "index"]
theorem sc_BadPairs___init__ : FnScope N_BadPairs___init__ ["self", "index"] (defScope s_BadPairs___init__) := ⟨rfl, rfl, rfl, by decide +kernel, rfl, by decide +kernel, by decide +kernel⟩
abbrev s_is_whole : Stmt := topS 8
abbrev N_is_whole : List Str := ["value", "low", "high"]
theorem sc_is_whole : FnScope N_is_whole ["value", "low", "high"] (defScope s_is_whole) := ⟨rfl, rfl, rfl, by decide +kernel, rfl, by decide +kernel, by decide +kernel⟩
abbrev s_is_letter : Stmt := topS 9
abbrev N_is_letter : List Str := ["letters", "value"]
theorem sc_is_letter : FnScope N_is_letter ["letters", "value"] (defScope s_is_letter) := ⟨rfl, rfl, rfl, by decide +kernel, rfl, by decide +kernel, by decide +kernel⟩
abbrev s_is_pair : Stmt := topS 10
abbrev N_is_pair : List Str := ["letters", "value", "letter"]
theorem sc_is_pair : FnScope N_is_pair ["letters", "value"] (defScope s_is_pair) := ⟨rfl, rfl, rfl, by decide +kernel, rfl, by decide +kernel, by decide +kernel⟩
abbrev s_check_pairs : Stmt := topS 11
abbrev N_check_pairs : List Str := ["letters", "pairs", "index", "pair"]
theorem sc_check_pairs : FnScope N_check_pairs ["letters", "pairs"] (defScope s_check_pairs) := ⟨rfl, rfl, rfl, by decide +kernel, rfl, by decide +kernel, by decide +kernel⟩
abbrev s_Trade___init__ : Stmt := inClass (topS 12) 0
abbrev N_Trade___init__ : List Str := ["self", "letters", "pairs"]
theorem sc_Trade___init__ : FnScope N_Trade___init__ ["self", "letters", "pairs"] (defScope s_Trade___init__) := ⟨rfl, rfl, rfl, by decide +kernel, rfl, by decide +kernel, by decide +kernel⟩
abbrev s_Trade_letters : Stmt := inClass (topS 12) 1
abbrev N_Trade_letters : List Str := ["self"]
theorem sc_Trade_letters : FnScope N_Trade_letters ["self"] (defScope s_Trade_letters) := ⟨rfl, rfl, rfl, by decide +kernel, rfl, by decide +kernel, by decide +kernel⟩
abbrev s_Trade_pairs : Stmt := inClass (topS 12) 2
abbrev N_Trade_pairs : List Str := ["self"]
theorem sc_Trade_pairs : FnScope N_Trade_pairs ["self"] (defScope s_Trade_pairs) := ⟨rfl, rfl, rfl, by decide +kernel, rfl, by decide +kernel, by decide +kernel⟩
abbrev s_Trade___eq__ : Stmt := inClass (topS 12) 3
abbrev N_Trade___eq__ : List Str := ["self", "other"]
theorem sc_Trade___eq__ : FnScope N_Trade___eq__ ["self", "other"] (defScope s_Trade___eq__) := ⟨rfl, rfl, rfl, by decide +kernel, rfl, by decide +kernel, by decide +kernel⟩
abbrev s_check_trade : Stmt := topS 13
abbrev N_check_trade : List Str := ["trade"]
theorem sc_check_trade : FnScope N_check_trade ["trade"] (defScope s_check_trade) := ⟨rfl, rfl, rfl, by decide +kernel, rfl, by decide +kernel, by decide +kernel⟩
abbrev s_may_change : Stmt := topS 14
abbrev N_may_change : List Str := ["trade", "one", "other"]
theorem sc_may_change : FnScope N_may_change ["trade", "one", "other"] (defScope s_may_change) := ⟨rfl, rfl, rfl, by decide +kernel, rfl, by decide +kernel, by decide +kernel⟩
abbrev s_bars_of : Stmt := topS 15
abbrev N_bars_of : List Str := ["trade", "bars", "letter", "bits", "other"]
theorem sc_bars_of : FnScope N_bars_of ["trade"] (defScope s_bars_of) := ⟨rfl, rfl, rfl, by decide +kernel, rfl, by decide +kernel, by decide +kernel⟩
abbrev s_is_row : Stmt := topS 18
abbrev N_is_row : List Str := ["letters", "value", "letter"]
theorem sc_is_row : FnScope N_is_row ["letters", "value"] (defScope s_is_row) := ⟨rfl, rfl, rfl, by decide +kernel, rfl, by decide +kernel, by decide +kernel⟩
abbrev s_check_row : Stmt := topS 19
abbrev N_check_row : List Str := ["trade", "row"]
theorem sc_check_row : FnScope N_check_row ["trade", "row"] (defScope s_check_row) := ⟨rfl, rfl, rfl, by decide +kernel, rfl, by decide +kernel, by decide +kernel⟩
abbrev s_check_rows : Stmt := topS 20
abbrev N_check_rows : List Str := ["trade", "one", "other"]
theorem sc_check_rows : FnScope N_check_rows ["trade", "one", "other"] (defScope s_check_rows) := ⟨rfl, rfl, rfl, by decide +kernel, rfl, by decide +kernel, by decide +kernel⟩
abbrev s_alike : Stmt := topS 21
abbrev N_alike : List Str := ["trade", "one", "other"]
theorem sc_alike : FnScope N_alike ["trade", "one", "other"] (defScope s_alike) := ⟨rfl, rfl, rfl, by decide +kernel, rfl, by decide +kernel, by decide +kernel⟩
abbrev s_find_bar : Stmt := topS 22
abbrev N_find_bar : List Str := ["trade", "one", "other", "letter", "low", "high", "place"]
theorem sc_find_bar : FnScope N_find_bar ["trade", "one", "other"] (defScope s_find_bar) := ⟨rfl, rfl, rfl, by decide +kernel, rfl, by decide +kernel, by decide +kernel⟩
abbrev s_only : Stmt := topS 23
abbrev N_only : List Str := ["row", "low", "high", "letter"]
theorem sc_only : FnScope N_only ["row", "low", "high"] (defScope s_only) := ⟨rfl, rfl, rfl, by decide +kernel, rfl, by decide +kernel, by decide +kernel⟩
abbrev s_first_unlike : Stmt := topS 24
abbrev N_first_unlike : List Str := ["one", "other", "place"]
theorem sc_first_unlike : FnScope N_first_unlike ["one", "other"] (defScope s_first_unlike) := ⟨rfl, rfl, rfl, by decide +kernel, rfl, by decide +kernel, by decide +kernel⟩
abbrev s_least : Stmt := topS 25
abbrev N_least : List Str := ["trade", "row"]
theorem sc_least : FnScope N_least ["trade", "row"] (defScope s_least) := ⟨rfl, rfl, rfl, by decide +kernel, rfl, by decide +kernel, by decide +kernel⟩
abbrev s_first_letters : Stmt := topS 26
abbrev N_first_letters : List Str := ["bars", "row", "found", "barred", "place", "letter"]
theorem sc_first_letters : FnScope N_first_letters ["bars", "row"] (defScope s_first_letters) := ⟨rfl, rfl, rfl, by decide +kernel, rfl, by decide +kernel, by decide +kernel⟩
abbrev s_without : Stmt := topS 27
abbrev N_without : List Str := ["row", "place"]
theorem sc_without : FnScope N_without ["row", "place"] (defScope s_without) := ⟨rfl, rfl, rfl, by decide +kernel, rfl, by decide +kernel, by decide +kernel⟩
abbrev s_least_of : Stmt := topS 28
abbrev N_least_of : List Str := ["bars", "row", "found", "left", "letter", "place"]
theorem sc_least_of : FnScope N_least_of ["bars", "row"] (defScope s_least_of) := ⟨rfl, rfl, rfl, by decide +kernel, rfl, by decide +kernel, by decide +kernel⟩
abbrev s_parts : Stmt := topS 30
abbrev N_parts : List Str := ["trade", "row", "bars", "bits"]
theorem sc_parts : FnScope N_parts ["trade", "row"] (defScope s_parts) := ⟨rfl, rfl, rfl, by decide +kernel, rfl, by decide +kernel, by decide +kernel⟩
abbrev s_hang : Stmt := topS 31
abbrev N_hang : List Str := ["bars", "row", "found", "letter", "joined", "others", "bits"]
theorem sc_hang : FnScope N_hang ["bars", "row"] (defScope s_hang) := ⟨rfl, rfl, rfl, by decide +kernel, rfl, by decide +kernel, by decide +kernel⟩
abbrev s_choose : Stmt := topS 32
abbrev N_choose : List Str := ["row", "bits", "letter"]
theorem sc_choose : FnScope N_choose ["row", "bits"] (defScope s_choose) := ⟨rfl, rfl, rfl, by decide +kernel, rfl, by decide +kernel, by decide +kernel⟩
abbrev s__law_mix : Stmt := topS 34
abbrev N__law_mix : List Str := ["_law_script", "_law_seed", "_law_state", "_law_cell"]
theorem sc__law_mix : FnScope N__law_mix ["_law_script", "_law_seed"] (defScope s__law_mix) := ⟨rfl, rfl, rfl, by decide +kernel, rfl, by decide +kernel, by decide +kernel⟩
abbrev s__law_next : Stmt := topS 35
abbrev N__law_next : List Str := ["_law_h", "_law_bound", "_law_cell", "_law_cells"]
theorem sc__law_next : FnScope N__law_next ["_law_h", "_law_bound"] (defScope s__law_next) := ⟨rfl, rfl, rfl, by decide +kernel, rfl, by decide +kernel, by decide +kernel⟩
abbrev s__law_pairs : Stmt := topS 36
abbrev N__law_pairs : List Str := ["_law_h", "_law_letters", "_law_kind", "_law_found", "_law_a", "_law_b"]
theorem sc__law_pairs : FnScope N__law_pairs ["_law_h", "_law_letters"] (defScope s__law_pairs) := ⟨rfl, rfl, rfl, by decide +kernel, rfl, by decide +kernel, by decide +kernel⟩
abbrev s__law_row : Stmt := topS 37
abbrev N__law_row : List Str := ["_law_h", "_law_letters", "_law_most", "_law_k"]
theorem sc__law_row : FnScope N__law_row ["_law_h", "_law_letters", "_law_most"] (defScope s__law_row) := ⟨rfl, rfl, rfl, by decide +kernel, rfl, by decide +kernel, by decide +kernel⟩
abbrev s__law_may : Stmt := topS 38
abbrev N__law_may : List Str := ["_law_pairs_here", "_law_a", "_law_b"]
theorem sc__law_may : FnScope N__law_may ["_law_pairs_here", "_law_a", "_law_b"] (defScope s__law_may) := ⟨rfl, rfl, rfl, by decide +kernel, rfl, by decide +kernel, by decide +kernel⟩
abbrev s__law_lots : Stmt := topS 40
abbrev N__law_lots : List Str := ["_law_pairs_here", "_law_row_here", "_law_left", "_law_found", "_law_lot", "_law_waiting", "_law_here", "_law_more", "_law_x"]
theorem sc__law_lots : FnScope N__law_lots ["_law_pairs_here", "_law_row_here"] (defScope s__law_lots) := ⟨rfl, rfl, rfl, by decide +kernel, rfl, by decide +kernel, by decide +kernel⟩
abbrev s_law : Stmt := topS 41
abbrev N_law : List Str := ["_law_script", "_law_h", "_law_letters", "_law_pairs_here", "_law_told", "_law_row_here", "_law_due", "_law_found", "_law_turn", "_law_whole", "_law_one", "_law_lot", "_law_x"]
theorem sc_law : FnScope N_law ["_law_script"] (defScope s_law) := ⟨rfl, rfl, rfl, by decide +kernel, rfl, by decide +kernel, by decide +kernel⟩
structure Nv (K : PySem.W.Frag) (mg : Str → Option Value) : Type where
  a_is_whole : Addr
  d_is_whole : FuncData
  F_is_whole : Fun K "is_whole" "is_whole" s_is_whole a_is_whole d_is_whole
  b_is_whole : Binds K d_is_whole ["value", "low", "high"] []
  m_is_whole : mg "is_whole" = some (.ref a_is_whole)
  a_is_letter : Addr
  d_is_letter : FuncData
  F_is_letter : Fun K "is_letter" "is_letter" s_is_letter a_is_letter d_is_letter
  b_is_letter : Binds K d_is_letter ["letters", "value"] []
  m_is_letter : mg "is_letter" = some (.ref a_is_letter)
  a_is_pair : Addr
  d_is_pair : FuncData
  F_is_pair : Fun K "is_pair" "is_pair" s_is_pair a_is_pair d_is_pair
  b_is_pair : Binds K d_is_pair ["letters", "value"] []
  m_is_pair : mg "is_pair" = some (.ref a_is_pair)
  a_check_pairs : Addr
  d_check_pairs : FuncData
  F_check_pairs : Fun K "check_pairs" "check_pairs" s_check_pairs a_check_pairs d_check_pairs
  b_check_pairs : Binds K d_check_pairs ["letters", "pairs"] []
  m_check_pairs : mg "check_pairs" = some (.ref a_check_pairs)
  a_Trade___init__ : Addr
  d_Trade___init__ : FuncData
  F_Trade___init__ : Fun K "__init__" "Trade.__init__" s_Trade___init__ a_Trade___init__ d_Trade___init__
  b_Trade___init__ : Binds K d_Trade___init__ ["self", "letters", "pairs"] []
  a_Trade_letters : Addr
  d_Trade_letters : FuncData
  F_Trade_letters : Fun K "letters" "Trade.letters" s_Trade_letters a_Trade_letters d_Trade_letters
  b_Trade_letters : Binds K d_Trade_letters ["self"] []
  a_Trade_pairs : Addr
  d_Trade_pairs : FuncData
  F_Trade_pairs : Fun K "pairs" "Trade.pairs" s_Trade_pairs a_Trade_pairs d_Trade_pairs
  b_Trade_pairs : Binds K d_Trade_pairs ["self"] []
  a_Trade___eq__ : Addr
  d_Trade___eq__ : FuncData
  F_Trade___eq__ : Fun K "__eq__" "Trade.__eq__" s_Trade___eq__ a_Trade___eq__ d_Trade___eq__
  b_Trade___eq__ : Binds K d_Trade___eq__ ["self", "other"] []
  a_check_trade : Addr
  d_check_trade : FuncData
  F_check_trade : Fun K "check_trade" "check_trade" s_check_trade a_check_trade d_check_trade
  b_check_trade : Binds K d_check_trade ["trade"] []
  m_check_trade : mg "check_trade" = some (.ref a_check_trade)
  a_may_change : Addr
  d_may_change : FuncData
  F_may_change : Fun K "may_change" "may_change" s_may_change a_may_change d_may_change
  b_may_change : Binds K d_may_change ["trade", "one", "other"] []
  m_may_change : mg "may_change" = some (.ref a_may_change)
  a_bars_of : Addr
  d_bars_of : FuncData
  F_bars_of : Fun K "bars_of" "bars_of" s_bars_of a_bars_of d_bars_of
  b_bars_of : Binds K d_bars_of ["trade"] []
  m_bars_of : mg "bars_of" = some (.ref a_bars_of)
  a_is_row : Addr
  d_is_row : FuncData
  F_is_row : Fun K "is_row" "is_row" s_is_row a_is_row d_is_row
  b_is_row : Binds K d_is_row ["letters", "value"] []
  m_is_row : mg "is_row" = some (.ref a_is_row)
  a_check_row : Addr
  d_check_row : FuncData
  F_check_row : Fun K "check_row" "check_row" s_check_row a_check_row d_check_row
  b_check_row : Binds K d_check_row ["trade", "row"] []
  m_check_row : mg "check_row" = some (.ref a_check_row)
  a_check_rows : Addr
  d_check_rows : FuncData
  F_check_rows : Fun K "check_rows" "check_rows" s_check_rows a_check_rows d_check_rows
  b_check_rows : Binds K d_check_rows ["trade", "one", "other"] []
  m_check_rows : mg "check_rows" = some (.ref a_check_rows)
  a_alike : Addr
  d_alike : FuncData
  F_alike : Fun K "alike" "alike" s_alike a_alike d_alike
  b_alike : Binds K d_alike ["trade", "one", "other"] []
  m_alike : mg "alike" = some (.ref a_alike)
  a_find_bar : Addr
  d_find_bar : FuncData
  F_find_bar : Fun K "find_bar" "find_bar" s_find_bar a_find_bar d_find_bar
  b_find_bar : Binds K d_find_bar ["trade", "one", "other"] []
  m_find_bar : mg "find_bar" = some (.ref a_find_bar)
  a_only : Addr
  d_only : FuncData
  F_only : Fun K "only" "only" s_only a_only d_only
  b_only : Binds K d_only ["row", "low", "high"] []
  m_only : mg "only" = some (.ref a_only)
  a_first_unlike : Addr
  d_first_unlike : FuncData
  F_first_unlike : Fun K "first_unlike" "first_unlike" s_first_unlike a_first_unlike d_first_unlike
  b_first_unlike : Binds K d_first_unlike ["one", "other"] []
  m_first_unlike : mg "first_unlike" = some (.ref a_first_unlike)
  a_least : Addr
  d_least : FuncData
  F_least : Fun K "least" "least" s_least a_least d_least
  b_least : Binds K d_least ["trade", "row"] []
  m_least : mg "least" = some (.ref a_least)
  a_first_letters : Addr
  d_first_letters : FuncData
  F_first_letters : Fun K "first_letters" "first_letters" s_first_letters a_first_letters d_first_letters
  b_first_letters : Binds K d_first_letters ["bars", "row"] []
  m_first_letters : mg "first_letters" = some (.ref a_first_letters)
  a_without : Addr
  d_without : FuncData
  F_without : Fun K "without" "without" s_without a_without d_without
  b_without : Binds K d_without ["row", "place"] []
  m_without : mg "without" = some (.ref a_without)
  a_least_of : Addr
  d_least_of : FuncData
  F_least_of : Fun K "least_of" "least_of" s_least_of a_least_of d_least_of
  b_least_of : Binds K d_least_of ["bars", "row"] []
  m_least_of : mg "least_of" = some (.ref a_least_of)
  a_parts : Addr
  d_parts : FuncData
  F_parts : Fun K "parts" "parts" s_parts a_parts d_parts
  b_parts : Binds K d_parts ["trade", "row"] []
  m_parts : mg "parts" = some (.ref a_parts)
  a_hang : Addr
  d_hang : FuncData
  F_hang : Fun K "hang" "hang" s_hang a_hang d_hang
  b_hang : Binds K d_hang ["bars", "row"] []
  m_hang : mg "hang" = some (.ref a_hang)
  a_choose : Addr
  d_choose : FuncData
  F_choose : Fun K "choose" "choose" s_choose a_choose d_choose
  b_choose : Binds K d_choose ["row", "bits"] []
  m_choose : mg "choose" = some (.ref a_choose)
  a__law_mix : Addr
  d__law_mix : FuncData
  F__law_mix : Fun K "_law_mix" "_law_mix" s__law_mix a__law_mix d__law_mix
  b__law_mix : Binds K d__law_mix ["_law_script", "_law_seed"] []
  m__law_mix : mg "_law_mix" = some (.ref a__law_mix)
  a__law_next : Addr
  d__law_next : FuncData
  F__law_next : Fun K "_law_next" "_law_next" s__law_next a__law_next d__law_next
  b__law_next : Binds K d__law_next ["_law_h", "_law_bound"] []
  m__law_next : mg "_law_next" = some (.ref a__law_next)
  a__law_pairs : Addr
  d__law_pairs : FuncData
  F__law_pairs : Fun K "_law_pairs" "_law_pairs" s__law_pairs a__law_pairs d__law_pairs
  b__law_pairs : Binds K d__law_pairs ["_law_h", "_law_letters"] []
  m__law_pairs : mg "_law_pairs" = some (.ref a__law_pairs)
  a__law_row : Addr
  d__law_row : FuncData
  F__law_row : Fun K "_law_row" "_law_row" s__law_row a__law_row d__law_row
  b__law_row : Binds K d__law_row ["_law_h", "_law_letters", "_law_most"] []
  m__law_row : mg "_law_row" = some (.ref a__law_row)
  a__law_may : Addr
  d__law_may : FuncData
  F__law_may : Fun K "_law_may" "_law_may" s__law_may a__law_may d__law_may
  b__law_may : Binds K d__law_may ["_law_pairs_here", "_law_a", "_law_b"] []
  m__law_may : mg "_law_may" = some (.ref a__law_may)
  a__law_lots : Addr
  d__law_lots : FuncData
  F__law_lots : Fun K "_law_lots" "_law_lots" s__law_lots a__law_lots d__law_lots
  b__law_lots : Binds K d__law_lots ["_law_pairs_here", "_law_row_here"] []
  m__law_lots : mg "_law_lots" = some (.ref a__law_lots)
  a_law : Addr
  d_law : FuncData
  F_law : Fun K "law" "law" s_law a_law d_law
  b_law : Binds K d_law ["_law_script"] []
  m_law : mg "law" = some (.ref a_law)
  C_Trade : Addr
  m_Trade : mg "Trade" = some (.ref C_Trade)
  n_all : mg "all" = none
  n_bool : mg "bool" = none
  n_enumerate : mg "enumerate" = none
  n_int : mg "int" = none
  n_isinstance : mg "isinstance" = none
  n_len : mg "len" = none
  n_list : mg "list" = none
  n_max : mg "max" = none
  n_min : mg "min" = none
  n_range : mg "range" = none
  n_set : mg "set" = none
  n_sorted : mg "sorted" = none
  n_tuple : mg "tuple" = none
  t_MOST_LETTERS : Tok
  c_MOST_LETTERS : mg "MOST_LETTERS" = some (.int 6 t_MOST_LETTERS)
  t_MOST_IN_ROW : Tok
  c_MOST_IN_ROW : mg "MOST_IN_ROW" = some (.int 20 t_MOST_IN_ROW)
  cl : Cls K C_Trade
  nl : NoAttr K C_Trade "_letters"
  np : NoAttr K C_Trade "_pairs"
  mk_Trade : Mk K C_Trade a_Trade___init__
  pr_l : Addr
  pr_p : Addr
  p_letters : PropOf K C_Trade "letters" pr_l a_Trade_letters
  p_pairs : PropOf K C_Trade "pairs" pr_p a_Trade_pairs
  ic : InsK K C_Trade
  eqf : PySem.W.findIn K (.ref C_Trade) "__eq__" = some (some (.ref a_Trade___eq__))
  eqi : PySem.W.isFn K (.ref a_Trade___eq__) = true
  nf : PySem.W.notFirst K C_Trade (.type "tuple") = true
/-! ### tactics by name -/
local macro_rules
  | `(tactic| walk_at "sz") => `(tactic| first
    | omega
    | decide
    | (simp; omega)
    | (simp [iL, row, pairsD]; omega))
  | `(tactic| walk_at "ea") => `(tactic| first
    | (with_reducible exact ea_nil)
    | ((with_reducible apply ea_consL); (focus (walk_at "ev")); (focus (walk_at "ea")))
    | ((with_reducible apply ea_consS); (focus (walk_at "ev")); (focus (walk_at "ea")))
    | ((with_reducible apply ea_cons); (focus (walk_at "ev")); (focus (walk_at "ea")))
    | ((with_reducible apply ea_consN); (focus (walk_at "en")); (focus (walk_at "ea"))))
  | `(tactic| walk_at "ed") => `(tactic| first
    | (with_reducible exact ed_nil)
    | ((with_reducible apply ed_cons); (focus (walk_at "ev")); (focus (walk_at "ed"))))
  | `(tactic| walk_at "en") => `(tactic| first
    | ((with_reducible apply en_lst); (focus (walk_at "ed")); (focus (simp)))
    | ((with_reducible apply en_listT); (focus (walk_at "ev")))
    | ((with_reducible apply en_addL); (focus (walk_at "ev")); (focus (walk_at "en")); (focus (walk_at "sz")))
    | ((with_reducible apply en_addN); (focus (walk_at "en")); (focus (walk_at "en")); (focus (walk_at "sz")))
    | ((with_reducible apply en_slL); (focus (walk_at "ev")); (focus (walk_at "eo")); (focus (walk_at "eo"))))
  | `(tactic| walk_at "eo") => `(tactic| first
    | (with_reducible exact eo_none)
    | ((with_reducible apply eo_some); (focus (walk_at "ev"))))
  | `(tactic| walk_at "et") => `(tactic| first
    | (with_reducible exact et_yes)
    | ((with_reducible apply et_test); (focus (walk_at "ev")))
    | ((with_reducible apply et_B); (focus (walk_at "ev")))
    | ((with_reducible apply et_truB); (focus (walk_at "ev")))
    | ((with_reducible apply et_truT); (focus (walk_at "ev")))
    | ((with_reducible apply et_not); (focus (walk_at "et")))
    | ((with_reducible apply et_and); (focus (walk_at "et")); (focus (intro _; walk_at "et")))
    | ((with_reducible apply et_or); (focus (walk_at "et")); (focus (intro _; walk_at "et"))))
  | `(tactic| walk_at "var") => `(tactic| first
    | ((with_reducible apply ev_varD); (focus (assumption)); (focus (rfl)))
    | ((with_reducible apply ev_varL); (focus (assumption)); (focus (rfl)))
    | ((with_reducible apply ev_varS); (focus (assumption)); (focus (rfl)))
    | ((with_reducible apply ev_varT); (focus (assumption)); (focus (rfl)))
    | ((with_reducible apply ev_varH); (focus (assumption)); (focus (rfl)))
    | ((with_reducible apply ev_varZ); (focus (assumption)); (focus (rfl))))
  | `(tactic| walk_at "ev") => `(tactic| first
    | walk_at "var"
    | (with_reducible exact ev_int)
    | (with_reducible exact ev_bl)
    | (with_reducible exact ev_str)
    | (with_reducible exact ev_non)
    | ((with_reducible apply ev_letters); (focus (walk_at "ev")))
    | ((with_reducible apply ev_pairs); (focus (walk_at "ev")))
    | ((with_reducible apply ev_addI); (focus (walk_at "ev")); (focus (walk_at "ev")))
    | ((with_reducible apply ev_addT); (focus (walk_at "ev")); (focus (walk_at "ev")); (focus (walk_at "sz")))
    | ((with_reducible apply ev_i0); (focus (walk_at "ev")); (focus (walk_at "ev")); (focus (first | exact fun _ => .int _ | exact fun _ => .bl _)))
    | ((with_reducible apply ev_iC); (focus (walk_at "ev")); (focus (walk_at "ev")); (focus (first | assumption | walk_at "cond")); (focus (exact fun _ => .int _)))
    | ((with_reducible apply ev_chain); (focus (walk_at "ev")); (focus (walk_at "ev")); (focus (walk_at "ev")))
    | ((with_reducible apply ev_eqI); (focus (walk_at "ev")); (focus (walk_at "ev")))
    | ((with_reducible apply ev_neI); (focus (walk_at "ev")); (focus (walk_at "ev")))
    | ((with_reducible apply ev_eqR); (focus (walk_at "ev")); (focus (walk_at "ev")))
    | ((with_reducible apply ev_neR); (focus (walk_at "ev")); (focus (walk_at "ev")))
    | ((with_reducible apply ev_isN); (focus (walk_at "ev")))
    | ((with_reducible apply ev_notN); (focus (walk_at "ev")))
    | ((with_reducible apply ev_in2); (focus (walk_at "ev")); (focus (walk_at "ev")); (focus (walk_at "ev")))
    | ((with_reducible apply ev_inP); (focus (walk_at "ev")); (focus (walk_at "ev")))
    | ((with_reducible apply ev_tup); (focus (walk_at "ed")); (focus (simp)))
    | ((with_reducible apply ev_lenT); (focus (walk_at "ev")))
    | ((with_reducible apply ev_lenL); (focus (walk_at "ev")))
    | ((with_reducible apply ev_lenS); (focus (walk_at "ev")))
    | ((with_reducible apply ev_lenN); (focus (walk_at "en")))
    | ((with_reducible apply ev_max2); (focus (walk_at "ev")); (focus (walk_at "ev")))
    | ((with_reducible apply ev_min2); (focus (walk_at "ev")); (focus (walk_at "ev")))
    | ((with_reducible apply ev_int1); (focus (walk_at "ev")))
    | ((with_reducible apply ev_tupleL); (focus (walk_at "ev")))
    | ((with_reducible apply ev_tupleN); (focus (walk_at "en")))
    | ((with_reducible apply ev_countT); (focus (walk_at "ev")); (focus (walk_at "ev")))
    | ((with_reducible apply ev_andV); (focus (walk_at "ev")); (focus (intro _; walk_at "ev")))
    | ((with_reducible apply ev_orV); (focus (walk_at "ev")); (focus (intro _; walk_at "ev")))
    | ((with_reducible apply ev_notV); (focus (walk_at "ev"))))
section
variable {P : Program} {w : World} {K : PySem.W.Frag} {mg : Str → Option Value} {base : Heap}
theorem _root_.L2.Room.units65 {k : Nat} {A : Around} (r : Room k A) : A.units + 65 < cLine := by have := r.un; omega
def isWhole : PyData → Int → Int → Bool
  | .int k, lo, hi => decide (lo ≤ k) && decide (k ≤ hi)
  | _, _, _ => false
abbrev A_is_whole (as : List Ag) (d : PyData) : Prop := ∃ (k lo hi : Int), as = [.c (.d (.int k)), .c (.d (.int lo)), .c (.d (.int hi))] ∧ d = .bool (decide (lo ≤ k) && decide (k ≤ hi))
theorem ok_is_whole (E : Nv K mg) : FnOk P w K mg base CX0 4 E.a_is_whole E.d_is_whole ["value", "low", "high"] (spC K E.C_Trade A_is_whole) := by
  refine E.F_is_whole.ok sc_is_whole (fun vs H Q _ h => ?_) (fun cdv A outer s H vs Q _ hr h => ?_)
  · obtain ⟨as, d, ha, ⟨_, _, _, rfl, _⟩, _⟩ := h
    exact ha.length
  · obtain ⟨as, d, ha, ⟨k, lo, hi, rfl, rfl⟩, q⟩ := h
    obtain ⟨v1, v2, v3, rfl, a1, a2, a3⟩ := ha.three
    refine ⟨_, (pss_cons (ps_if (PW.pt (pw_or (pt_truK K (pe_callB (call_isiK K) (by rfl) E.n_isinstance (by decide +kernel) (pa_cons (pv 0) (pa_cons (pe_bltn (v := .ty "bool") (by rfl) E.n_bool (by decide +kernel) rfl) pa_nil))) (fun _ => rfl)) (pw_or1 (pt_not (pt_truK K (pe_callB (call_isiK K) (by rfl) E.n_isinstance (by decide +kernel) (pa_cons (pv 0) (pa_cons (pe_bltn (v := .ty "int") (by rfl) E.n_int (by decide +kernel) rfl) pa_nil))) (fun _ => rfl)))))) (pss_one (ps_ret pe_bl)) pss_nil)
      (pss_one (ps_ret (pe_chain op_le op_le (pv 1) (pv 0) (pv 2))))), ?_⟩
    have w : Wd K E.C_Trade [] [] H H _ [.d (.int k), .d (.int lo), .d (.int hi)] := Wd.start3 (N := N_is_whole) a1 a2 a3
    refine s_when w (b := false) (et_cast (et_or (et_truB (ev_isiI (b := false) (ev_var w rfl) (by decide +kernel))) (fun _ => et_not (et_truB (ev_isiI (b := true) (ev_var w rfl) (by decide +kernel))))) rfl) (fun z => by cases z) (fun _ H1 w1 => ?_)
    exact s_retQ w1 q (by walk_at "ev")
abbrev A_is_letter (as : List Ag) (d : PyData) : Prop := ∃ (n k : Int), as = [.c (.d (.int n)), .c (.d (.int k))] ∧ d = .bool (decide (0 ≤ k) && decide (k ≤ n - 1))
theorem ok_Trade_letters (E : Nv K mg) : FnOk P w K mg base CX0 1 E.a_Trade_letters E.d_Trade_letters ["self"] (getSp E.C_Trade "_letters") := by
  obtain ⟨oc, od, kV, doc, pm, an, cdv, ct, osl, e, lk, hcd⟩ := E.F_Trade_letters.ex
  rw [e] at lk ⊢
  exact fn_getter lk hcd sc_Trade_letters rfl rfl E.cl E.nl
theorem ok_Trade_pairs (E : Nv K mg) : FnOk P w K mg base CX0 1 E.a_Trade_pairs E.d_Trade_pairs ["self"] (getSp E.C_Trade "_pairs") := by
  obtain ⟨oc, od, kV, doc, pm, an, cdv, ct, osl, e, lk, hcd⟩ := E.F_Trade_pairs.ex
  rw [e] at lk ⊢
  exact fn_getter lk hcd sc_Trade_pairs rfl rfl E.cl E.np
theorem ok_is_letter (E : Nv K mg) : FnOk P w K mg base CX0 8 E.a_is_letter E.d_is_letter ["letters", "value"] (spC K E.C_Trade A_is_letter) := by
  refine E.F_is_letter.ok sc_is_letter (fun vs H Q _ h => ?_) (fun cdv A outer s H vs Q _ hr h => ?_)
  · obtain ⟨as, d, ha, ⟨_, _, rfl, _⟩, _⟩ := h
    exact ha.length
  · obtain ⟨as, d, ha, ⟨n, k, rfl, rfl⟩, q⟩ := h
    obtain ⟨v1, v2, rfl, a1, a2⟩ := ha.two
    refine ⟨_, (pss_one (ps_ret (pe_call (ok_is_whole E) (hr.mono (by first | decide | omega)) (by rfl) E.m_is_whole E.F_is_whole.kp E.b_is_whole .nil pass0 (pa_cons (pv 1) (pa_cons pe_int (pa_cons (pe_op op_sub (pv 0) pe_int) pa_nil)))))), ?_⟩
    have w : Wd K E.C_Trade [] [] H H _ [.d (.int n), .d (.int k)] := Wd.start2 (N := N_is_letter) a1 a2
    exact s_retQ w q (ev_call (by walk_at "ea") ⟨_, _, _, rfl, rfl⟩)
abbrev may (ps : List (Int × Int)) (a b : Int) : Bool := decide ((min a b, max a b) ∈ ps)
abbrev A_may_change (as : List Ag) (d : PyData) : Prop := ∃ (n : Int) (ps : List (Int × Int)) (a b : Int), as = [.c (.t n ps), .c (.d (.int a)), .c (.d (.int b))] ∧ d = .bool (may ps a b)
theorem ok_may_change (E : Nv K mg) : FnOk P w K mg base CX0 8 E.a_may_change E.d_may_change ["trade", "one", "other"] (spC K E.C_Trade A_may_change) := by
  refine E.F_may_change.ok sc_may_change (fun vs H Q _ h => ?_) (fun cdv A outer s H vs Q _ hr h => ?_)
  · obtain ⟨as, d, ha, ⟨_, _, _, _, rfl, _⟩, _⟩ := h
    exact ha.length
  · obtain ⟨as, d, ha, ⟨n, ps, a, b, rfl, rfl⟩, q⟩ := h
    obtain ⟨v1, v2, v3, rfl, a1, a2, a3⟩ := ha.three
    refine ⟨_, (pss_one (ps_ret (pe_cmpR (op_inTK K hr.units65) (pe_tupF (pa_cons (pe_callB (call_min2' rfl) (by rfl) E.n_min (by decide +kernel) (pa_cons (pv 1) (pa_cons (pv 2) pa_nil))) (pa_cons (pe_callB (call_max2' rfl) (by rfl) E.n_max (by decide +kernel) (pa_cons (pv 1) (pa_cons (pv 2) pa_nil))) pa_nil))) (pe_prop (pv 0) E.cl E.p_pairs (ok_Trade_pairs E) (hr.mono (by first | decide | omega)) E.b_Trade_pairs .nil pass0 rfl) (by with_unfolding_all rfl)))), ?_⟩
    have w : Wd K E.C_Trade [] [] H H _ [.t n ps, .d (.int a), .d (.int b)] := Wd.start3 (N := N_may_change) a1 a2 a3
    exact s_retQ w q (by walk_at "ev")
def onlyL (l : List Int) (a b : Int) : List Int := l.filter fun x => decide (x = a ∨ x = b)
theorem kept_int (l : List Int) (f : Int → Bool) : kept f PyData.int l = iL (l.filter f) := rfl
abbrev A_only (as : List Ag) (ds : List PyData) : Prop := ∃ (l : List Int) (a b : Int), l.length < 1000 ∧ as = [.c (.d (row l)), .c (.d (.int a)), .c (.d (.int b))] ∧ ds = iL (onlyL l a b)
theorem ok_only (E : Nv K mg) : FnOk P w K mg base CX0 8 E.a_only E.d_only ["row", "low", "high"] (spN K E.C_Trade A_only) := by
  refine E.F_only.ok sc_only (fun vs H Q _ h => ?_) (fun cdv A outer s H vs Q _ hr h => ?_)
  · obtain ⟨as, d, ha, ⟨_, _, _, _, rfl, _⟩, _⟩ := h
    exact ha.length
  · obtain ⟨as, d, ha, ⟨l, a, b, hl, rfl, rfl⟩, q⟩ := h
    obtain ⟨v1, v2, v3, rfl, a1, a2, a3⟩ := ha.three
    refine ⟨_, (pss_one (ps_ret (pe_lc (own := [("letter", 3)]) (g := gName 3) (by rfl) sc_only.nd (pi_tupK K (pv 0)) (blkOk_by (own := [("letter", 3)]) (N := N_only) (sc := defScope s_only) (by decide +kernel)) (fun _ _ _ _ _ => (pg_name (i := 3) sc_only.nd rfl (Or.inl rfl))) (fun _ _ _ _ _ => (pts_one (pt_cmpR (op_inK K) (pv 3) (pe_tupF (pa_cons (pv 1) (pa_cons (pv 2) pa_nil))) (by with_unfolding_all rfl)))) (fun _ _ _ _ _ => (pv 3))))), ?_⟩
    have w : Wd K E.C_Trade [] [] H H _ [.d (row l), .d (.int a), .d (.int b), .u] := Wd.start3 (N := N_only) a1 a2 a3
    refine s_retNQ w q (en_lcT (mk := PyData.int) w (ev_var w rfl) (fun x => decide (x = a ∨ x = b)) PyData.int (by omega) (fun x _ σ1 H1 w1 => by walk_at "et") (fun x _ σ1 H1 w1 _ => by walk_at "ev"))
end
end K1
set_option maxRecDepth 10000000
namespace K1
open PySem PySem.Spec PyProof.Rows L2 Pt
local macro_rules
  | `(tactic| walk_at "sz") => `(tactic| first
    | omega
    | decide
    | (simp; omega)
    | (simp [iL, row, pairsD]; omega))
  | `(tactic| walk_at "ea") => `(tactic| first
    | (with_reducible exact ea_nil)
    | ((with_reducible apply ea_consL); (focus (walk_at "ev")); (focus (walk_at "ea")))
    | ((with_reducible apply ea_consS); (focus (walk_at "ev")); (focus (walk_at "ea")))
    | ((with_reducible apply ea_cons); (focus (walk_at "ev")); (focus (walk_at "ea")))
    | ((with_reducible apply ea_consN); (focus (walk_at "en")); (focus (walk_at "ea"))))
  | `(tactic| walk_at "ed") => `(tactic| first
    | (with_reducible exact ed_nil)
    | ((with_reducible apply ed_cons); (focus (walk_at "ev")); (focus (walk_at "ed"))))
  | `(tactic| walk_at "en") => `(tactic| first
    | ((with_reducible apply en_lst); (focus (walk_at "ed")); (focus (simp)))
    | ((with_reducible apply en_listT); (focus (walk_at "ev")))
    | ((with_reducible apply en_addL); (focus (walk_at "ev")); (focus (walk_at "en")); (focus (walk_at "sz")))
    | ((with_reducible apply en_addN); (focus (walk_at "en")); (focus (walk_at "en")); (focus (walk_at "sz")))
    | ((with_reducible apply en_slL); (focus (walk_at "ev")); (focus (walk_at "eo")); (focus (walk_at "eo"))))
  | `(tactic| walk_at "eo") => `(tactic| first
    | (with_reducible exact eo_none)
    | ((with_reducible apply eo_some); (focus (walk_at "ev"))))
  | `(tactic| walk_at "et") => `(tactic| first
    | (with_reducible exact et_yes)
    | ((with_reducible apply et_test); (focus (walk_at "ev")))
    | ((with_reducible apply et_B); (focus (walk_at "ev")))
    | ((with_reducible apply et_truB); (focus (walk_at "ev")))
    | ((with_reducible apply et_truT); (focus (walk_at "ev")))
    | ((with_reducible apply et_not); (focus (walk_at "et")))
    | ((with_reducible apply et_and); (focus (walk_at "et")); (focus (intro _; walk_at "et")))
    | ((with_reducible apply et_or); (focus (walk_at "et")); (focus (intro _; walk_at "et"))))
  | `(tactic| walk_at "var") => `(tactic| first
    | ((with_reducible apply ev_varD); (focus (assumption)); (focus (rfl)))
    | ((with_reducible apply ev_varL); (focus (assumption)); (focus (rfl)))
    | ((with_reducible apply ev_varS); (focus (assumption)); (focus (rfl)))
    | ((with_reducible apply ev_varT); (focus (assumption)); (focus (rfl)))
    | ((with_reducible apply ev_varH); (focus (assumption)); (focus (rfl)))
    | ((with_reducible apply ev_varZ); (focus (assumption)); (focus (rfl))))
  | `(tactic| walk_at "ev") => `(tactic| first
    | walk_at "var"
    | (with_reducible exact ev_int)
    | (with_reducible exact ev_bl)
    | (with_reducible exact ev_str)
    | (with_reducible exact ev_non)
    | ((with_reducible apply ev_letters); (focus (walk_at "ev")))
    | ((with_reducible apply ev_pairs); (focus (walk_at "ev")))
    | ((with_reducible apply ev_addI); (focus (walk_at "ev")); (focus (walk_at "ev")))
    | ((with_reducible apply ev_addT); (focus (walk_at "ev")); (focus (walk_at "ev")); (focus (walk_at "sz")))
    | ((with_reducible apply ev_i0); (focus (walk_at "ev")); (focus (walk_at "ev")); (focus (first | exact fun _ => .int _ | exact fun _ => .bl _)))
    | ((with_reducible apply ev_iC); (focus (walk_at "ev")); (focus (walk_at "ev")); (focus (first | assumption | walk_at "cond")); (focus (exact fun _ => .int _)))
    | ((with_reducible apply ev_chain); (focus (walk_at "ev")); (focus (walk_at "ev")); (focus (walk_at "ev")))
    | ((with_reducible apply ev_eqI); (focus (walk_at "ev")); (focus (walk_at "ev")))
    | ((with_reducible apply ev_neI); (focus (walk_at "ev")); (focus (walk_at "ev")))
    | ((with_reducible apply ev_eqR); (focus (walk_at "ev")); (focus (walk_at "ev")))
    | ((with_reducible apply ev_neR); (focus (walk_at "ev")); (focus (walk_at "ev")))
    | ((with_reducible apply ev_isN); (focus (walk_at "ev")))
    | ((with_reducible apply ev_notN); (focus (walk_at "ev")))
    | ((with_reducible apply ev_in2); (focus (walk_at "ev")); (focus (walk_at "ev")); (focus (walk_at "ev")))
    | ((with_reducible apply ev_inP); (focus (walk_at "ev")); (focus (walk_at "ev")))
    | ((with_reducible apply ev_tup); (focus (walk_at "ed")); (focus (simp)))
    | ((with_reducible apply ev_lenT); (focus (walk_at "ev")))
    | ((with_reducible apply ev_lenL); (focus (walk_at "ev")))
    | ((with_reducible apply ev_lenS); (focus (walk_at "ev")))
    | ((with_reducible apply ev_lenN); (focus (walk_at "en")))
    | ((with_reducible apply ev_max2); (focus (walk_at "ev")); (focus (walk_at "ev")))
    | ((with_reducible apply ev_min2); (focus (walk_at "ev")); (focus (walk_at "ev")))
    | ((with_reducible apply ev_int1); (focus (walk_at "ev")))
    | ((with_reducible apply ev_tupleL); (focus (walk_at "ev")))
    | ((with_reducible apply ev_tupleN); (focus (walk_at "en")))
    | ((with_reducible apply ev_countT); (focus (walk_at "ev")); (focus (walk_at "ev")))
    | ((with_reducible apply ev_andV); (focus (walk_at "ev")); (focus (intro _; walk_at "ev")))
    | ((with_reducible apply ev_orV); (focus (walk_at "ev")); (focus (intro _; walk_at "ev")))
    | ((with_reducible apply ev_notV); (focus (walk_at "ev"))))
section
variable {P : Program} {w : World} {K : PySem.W.Frag} {mg : Str → Option Value} {base : Heap}
/-! ### first_unlike -/
def fuO (l m : List Int) : Option Nat := firstOf l.length fun k => if l[k]? = m[k]? then none else some k
def natD : Option Nat → PyData
  | some k => .int k
  | none => .none
abbrev A_first_unlike (as : List Ag) (d : PyData) : Prop := ∃ (l m : List Int), l.length < 1000 ∧ l.length = m.length ∧ as = [.n (iL l), .n (iL m)] ∧ d = natD (fuO l m)
theorem atI_iL {l : List Int} {k : Nat} (h : k < l.length) : atI (iL l) (k : Int) = some (.int l[k]) := atI_nat (by rw [iL_get, List.getElem?_eq_getElem h]; rfl)
theorem ok_first_unlike (E : Nv K mg) : FnOk P w K mg base CX0 4 E.a_first_unlike E.d_first_unlike ["one", "other"] (spC K E.C_Trade A_first_unlike) := by
  refine E.F_first_unlike.ok sc_first_unlike (fun vs H Q _ h => ?_) (fun cdv A outer s H vs Q _ hr h => ?_)
  · obtain ⟨as, d, ha, ⟨_, _, _, _, rfl, _⟩, _⟩ := h
    exact ha.length
  · obtain ⟨as, d, ha, ⟨l, m, hl, hm, rfl, rfl⟩, q⟩ := h
    obtain ⟨v1, v2, rfl, a1, a2⟩ := ha.two
    obtain ⟨p, a1⟩ := a1.lent
    obtain ⟨p', a2⟩ := a2.lent
    refine ⟨_, (pss_cons (ps_for PassesOwn.never rfl (pi_range1 (by rfl) E.n_range (pa_cons (pe_callB (call_lenK K) (by rfl) E.n_len (by decide +kernel) (pa_cons (pv 0) pa_nil)) pa_nil)) (pg_name (i := 2) sc_first_unlike.nd rfl (.inl rfl))
      (pss_one (ps_if (pt_cmpR (op_neK K hr.units) (pe_ix (ix_K K) (pv 0) (pv 2) (fun _ _ => rfl)) (pe_ix (ix_K K) (pv 1) (pv 2) (fun _ _ => rfl)) (nomark _)) (pss_one (ps_ret (pv 2))) pss_nil)))
      (pss_one (ps_ret pe_non))), ?_⟩
    have w : Wd K E.C_Trade [] [] H H _ [.s p (iL l), .s p' (iL m), .u] := Wd.start2 (N := N_first_unlike) a1 a2
    refine q_forR1 w (n := l.length) (by rw [← iL_len]; walk_at "ea") (by omega) (fun k σ H' => (∃ c, Wd K E.C_Trade [] [] H H' σ [.s p (iL l), .s p' (iL m), c]) ∧ ∀ j, j < k → l[j]? = m[j]?) (fun H1 w1 => ⟨⟨_, w1⟩, fun j hj => by omega⟩) ?_ ?_
    · rintro k σ H' hk ⟨⟨c, w1⟩, hn⟩
      have hk1 : k < l.length := by omega
      have hk2 : k < m.length := by omega
      have w2 : Wd K E.C_Trade [] [] H H' _ [.s p (iL l), .s p' (iL m), .d (.int k)] := w1.set 2 (v := .int k) (.int _)
      refine s_if w2 (et_test (ev_neI (ev_ixS (ev_var w2 rfl) (ev_var w2 rfl) (atI_iL hk1)) (ev_ixS (ev_var w2 rfl) (ev_var w2 rfl) (atI_iL hk2)))) (fun e H2 w3 => ?_) (fun e H2 w3 => ?_)
      · have e' : ¬ l[k] = m[k] := by simpa using e
        have z : fuO l m = some k := firstOf_some hk1 (fun j hj => if_pos (hn j hj)) (if_neg (by rw [List.getElem?_eq_getElem hk1, List.getElem?_eq_getElem hk2]; exact fun q => e' (Option.some.inj q)))
        rw [z] at q
        exact s_retQ w3 q (ev_var w3 rfl)
      · have e' : l[k] = m[k] := by simpa using e
        refine s_next ⟨⟨_, w3⟩, fun j hj => ?_⟩
        by_cases z : j = k
        · subst z
          rw [List.getElem?_eq_getElem hk1, List.getElem?_eq_getElem hk2, e']
        · exact hn j (by omega)
    · rintro σ H' ⟨⟨c, w1⟩, hn⟩
      have z : fuO l m = none := firstOf_none fun j hj => if_pos (hn j (by omega))
      rw [z] at q
      exact s_retQ w1 q ev_non
/-! ### find_bar -/
def barL (n : Int) (l m : List Int) : Option PyData := firstOf n.toNat fun a => if l.count (a : Int) = m.count (a : Int) then none else some (.tuple [.str "letter", .int a])
def barIn (ps : List (Int × Int)) (l m : List Int) (a b : Int) : Option PyData := if may ps a b = true then none else (fuO (onlyL l a b) (onlyL m a b)).map fun k => .tuple [.str "pair", .int a, .int b, .int k]
def barP (n : Int) (ps : List (Int × Int)) (l m : List Int) : Option PyData := firstOf n.toNat fun a => firstOf (n - ((a : Int) + 1)).toNat fun i => barIn ps l m a ((a : Int) + 1 + i)
def findBar (n : Int) (ps : List (Int × Int)) (l m : List Int) : PyData := ((barL n l m).or (barP n ps l m)).getD .none
theorem only_len (l : List Int) (a b : Int) (h : a ≠ b) : (onlyL l a b).length = l.count a + l.count b := by
  induction l with
  | nil => rfl
  | cons x r ih =>
    unfold onlyL at ih ⊢
    rw [List.count_cons, List.count_cons]
    by_cases h1 : x = a
    · rw [List.filter_cons_of_pos (by simp [h1]), List.length_cons, ih, if_pos (beq_iff_eq.mpr h1), if_neg (fun z => h (h1 ▸ eq_of_beq z))]
      omega
    · by_cases h2 : x = b
      · rw [List.filter_cons_of_pos (by simp [h2]), List.length_cons, ih, if_neg (fun z => h1 (eq_of_beq z)), if_pos (beq_iff_eq.mpr h2)]
        omega
      · rw [List.filter_cons_of_neg (by simp [h1, h2]), ih, if_neg (fun z => h1 (eq_of_beq z)), if_neg (fun z => h2 (eq_of_beq z))]
        omega
theorem only_lt {l : List Int} {a b : Int} (h : l.length < 1000) : (onlyL l a b).length < 1000 := Nat.lt_of_le_of_lt (List.length_filter_le _ _) h
abbrev A_find_bar (as : List Ag) (d : PyData) : Prop := ∃ (n : Int) (ps : List (Int × Int)) (l m : List Int), 0 ≤ n ∧ n ≤ 6 ∧ l.length < 1000 ∧ m.length < 1000 ∧ as = [.c (.t n ps), .c (.d (row l)), .c (.d (row m))] ∧ d = findBar n ps l m
theorem ok_find_bar (E : Nv K mg) : FnOk P w K mg base CX0 12 E.a_find_bar E.d_find_bar ["trade", "one", "other"] (spC K E.C_Trade A_find_bar) := by
  refine E.F_find_bar.ok sc_find_bar (fun vs H Q _ h => ?_) (fun cdv A outer s H vs Q _ hr h => ?_)
  · obtain ⟨as, d, ha, ⟨_, _, _, _, _, _, _, _, rfl, _⟩, _⟩ := h
    exact ha.length
  · obtain ⟨as, d, ha, ⟨n, ps, l, m, h0, h6, hl, hm, rfl, rfl⟩, q⟩ := h
    obtain ⟨v1, v2, v3, rfl, a1, a2, a3⟩ := ha.three
    refine ⟨_, (pss_cons (ps_for PassesOwn.never rfl (pi_range1 (by rfl) E.n_range (pa_cons (pe_prop (pv 0) E.cl E.p_letters (ok_Trade_letters E) (hr.mono (by first | decide | omega)) E.b_Trade_letters .nil pass0 rfl) pa_nil)) (pg_name (i := 3) sc_find_bar.nd rfl (.inl rfl))
      (pss_one (ps_if (pt_cmpR (op_neK K hr.units) (pe_bmT PySem.F.plainAttrs_tuple PySem.F.slot_tuple_count PySem.F.type_tuple_count (mt_tcountK K) (pv 1) (pa_cons (pv 3) pa_nil)) (pe_bmT PySem.F.plainAttrs_tuple PySem.F.slot_tuple_count PySem.F.type_tuple_count (mt_tcountK K) (pv 2) (pa_cons (pv 3) pa_nil)) (nomark _)) (pss_one (ps_ret (pe_tupF (pa_cons pe_str (pa_cons (pv 3) pa_nil))))) pss_nil)))
      (pss_cons (ps_for PassesOwn.never rfl (pi_range1 (by rfl) E.n_range (pa_cons (pe_prop (pv 0) E.cl E.p_letters (ok_Trade_letters E) (hr.mono (by first | decide | omega)) E.b_Trade_letters .nil pass0 rfl) pa_nil)) (pg_name (i := 4) sc_find_bar.nd rfl (.inl rfl))
      (pss_one (ps_for PassesOwn.never rfl (pi_range2 (by rfl) E.n_range (pa_cons (pe_op (op_addK K) (pv 4) pe_int) (pa_cons (pe_prop (pv 0) E.cl E.p_letters (ok_Trade_letters E) (hr.mono (by first | decide | omega)) E.b_Trade_letters .nil pass0 rfl) pa_nil))) (pg_name (i := 5) sc_find_bar.nd rfl (.inl rfl))
      (pss_cons (ps_if (pt_truK K (pe_call (ok_may_change E) (hr.mono (by first | decide | omega)) (by rfl) E.m_may_change E.F_may_change.kp E.b_may_change .nil pass0 (pa_cons (pv 0) (pa_cons (pv 4) (pa_cons (pv 5) pa_nil)))) (fun _ => rfl)) (pss_one ps_continue) pss_nil)
      (pss_cons (ps_set (i := 6) sc_find_bar.nd rfl (.inl rfl) (pe_call (ok_first_unlike E) (hr.mono (by first | decide | omega)) (by rfl) E.m_first_unlike E.F_first_unlike.kp E.b_first_unlike .nil pass0 (pa_cons (pe_call (ok_only E) (hr.mono (by first | decide | omega)) (by rfl) E.m_only E.F_only.kp E.b_only .nil pass0 (pa_cons (pv 1) (pa_cons (pv 4) (pa_cons (pv 5) pa_nil)))) (pa_cons (pe_call (ok_only E) (hr.mono (by first | decide | omega)) (by rfl) E.m_only E.F_only.kp E.b_only .nil pass0 (pa_cons (pv 2) (pa_cons (pv 4) (pa_cons (pv 5) pa_nil)))) pa_nil))))
      (pss_one (ps_if (pt_cmpR (op_notN1) (pv 6) pe_non (nomark _)) (pss_one (ps_ret (pe_tupF (pa_cons pe_str (pa_cons (pv 4) (pa_cons (pv 5) (pa_cons (pv 6) pa_nil))))))) pss_nil)))))))
      (pss_one (ps_ret pe_non)))), ?_⟩
    have w : Wd K E.C_Trade [] [] H H _ [.t n ps, .d (row l), .d (row m), .u, .u, .u, .u] := Wd.start3 (N := N_find_bar) a1 a2 a3
    refine q_forR1 w (n := n) (by walk_at "ea") (by omega) (fun k σ H' => (∃ c, Wd K E.C_Trade [] [] H H' σ [.t n ps, .d (row l), .d (row m), c, .u, .u, .u]) ∧ ∀ j : Nat, j < k → l.count (j : Int) = m.count (j : Int)) (fun H1 w1 => ⟨⟨_, w1⟩, fun j hj => by omega⟩) ?_ ?_
    · rintro k σ H' hk ⟨⟨c, w1⟩, hn⟩
      have w2 : Wd K E.C_Trade [] [] H H' _ [.t n ps, .d (row l), .d (row m), .d (.int k), .u, .u, .u] := w1.set 3 (v := .int k) (.int _)
      refine s_if w2 (et_test (ev_neI (by walk_at "ev") (by walk_at "ev"))) (fun e H2 w3 => ?_) (fun e H2 w3 => ?_)
      · have e0 : ¬ ((l.count (k : Int) : Nat) : Int) = ((m.count (k : Int) : Nat) : Int) := by simpa using e
        have e' : ¬ l.count (k : Int) = m.count (k : Int) := fun z => e0 (by rw [z])
        have z : findBar n ps l m = .tuple [.str "letter", .int k] := by
          unfold findBar
          rw [show barL n l m = some (.tuple [.str "letter", .int k]) from firstOf_some (by omega) (fun j hj => if_pos (hn j hj)) (if_neg e')]
          rfl
        rw [z] at q
        exact s_retQ w3 q (by walk_at "ev")
      · have e0 : ((l.count (k : Int) : Nat) : Int) = ((m.count (k : Int) : Nat) : Int) := by simpa using e
        have e' : l.count (k : Int) = m.count (k : Int) := by omega
        refine s_next ⟨⟨_, w3⟩, fun j hj => ?_⟩
        by_cases z : j = k
        · subst z; exact e'
        · exact hn j (by omega)
    rintro σ0 H0 ⟨⟨c0, w0⟩, hc⟩
    have zL : barL n l m = none := firstOf_none fun j hj => if_pos (hc j hj)
    have zB : ∀ {x : Option PyData}, barP n ps l m = x → findBar n ps l m = x.getD .none := fun {x} e => by
      unfold findBar
      rw [zL, e, Option.none_or]
    refine q_forR1 w0 (n := n) (by walk_at "ea") (by omega) (fun k σ H' => (∃ c1 c2 c3 c4, Wd K E.C_Trade [] [] H H' σ [.t n ps, .d (row l), .d (row m), c1, c2, c3, c4]) ∧ ∀ j : Nat, j < k → firstOf (n - ((j : Int) + 1)).toNat (fun i => barIn ps l m j ((j : Int) + 1 + i)) = none) (fun H1 w1 => ⟨⟨_, _, _, _, w1⟩, fun j hj => by omega⟩) ?_ ?_
    · rintro k σ H' hk ⟨⟨c1, c2, c3, c4, w1⟩, hn⟩
      have w2 : Wd K E.C_Trade [] [] H H' _ [.t n ps, .d (row l), .d (row m), c1, .d (.int k), c3, c4] := w1.set 4 (v := .int k) (.int _)
      refine s_forR2 w2 (lo := (k : Int) + 1) (n := n) (by walk_at "ea") (by omega) (fun i σ H' => (∃ c3 c4, Wd K E.C_Trade [] [] H H' σ [.t n ps, .d (row l), .d (row m), c1, .d (.int k), c3, c4]) ∧ ∀ j : Nat, j < i → barIn ps l m k ((k : Int) + 1 + j) = none) (fun H1 w1 => ⟨⟨_, _, w1⟩, fun j hj => by omega⟩) ?_ ?_
      · rintro i σ H' hi ⟨⟨c3, c4, w3⟩, hin⟩
        have w4 : Wd K E.C_Trade [] [] H H' _ [.t n ps, .d (row l), .d (row m), c1, .d (.int k), .d (.int ((k : Int) + 1 + i)), c4] := w3.set 5 (v := .int ((k : Int) + 1 + i)) (.int _)
        have step : barIn ps l m k ((k : Int) + 1 + i) = none → ∀ j : Nat, j < i + 1 → barIn ps l m k ((k : Int) + 1 + j) = none := fun z j hj => by
          by_cases q : j = i
          · subst q; exact z
          · exact hin j (by omega)
        refine s_when w4 (b := may ps k ((k : Int) + 1 + i)) (et_truB (ev_call (by walk_at "ea") ⟨_, _, _, _, rfl, rfl⟩)) (fun e H5 w5 => ?_) (fun e H5 w5 => ?_)
        · exact ⟨⟨_, _, w5⟩, step (if_pos e)⟩
        · have hne : (k : Int) ≠ (k : Int) + 1 + i := by omega
          have c1' := hc k (by omega)
          have c2' := hc ((k + 1 + i : Nat)) (by omega)
          have lens : (onlyL l k ((k : Int) + 1 + i)).length = (onlyL m k ((k : Int) + 1 + i)).length := by
            rw [only_len _ _ _ hne, only_len _ _ _ hne, c1']
            have e3 : ((k + 1 + i : Nat) : Int) = (k : Int) + 1 + i := by omega
            rw [e3] at c2'
            rw [c2']
          refine s_seq (s_asg w5 (c := .d (natD (fuO (onlyL l k ((k : Int) + 1 + i)) (onlyL m k ((k : Int) + 1 + i))))) (ev_call (ea_consN (en_call (by walk_at "ea") ⟨_, _, _, hl, rfl, rfl⟩) (ea_consN (en_call (by walk_at "ea") ⟨_, _, _, hm, rfl, rfl⟩) ea_nil)) ⟨_, _, only_lt hl, lens, rfl, rfl⟩) fun v σ6 H6 a6 w6 => ?_)
          have w6 : Wd K E.C_Trade [] [] H H6 σ6 [.t n ps, .d (row l), .d (row m), c1, .d (.int k), .d (.int ((k : Int) + 1 + i)), .d (natD (fuO (onlyL l k ((k : Int) + 1 + i)) (onlyL m k ((k : Int) + 1 + i))))] := w6
          cases ef : fuO (onlyL l k ((k : Int) + 1 + i)) (onlyL m k ((k : Int) + 1 + i)) with
          | none =>
            rw [ef] at w6
            refine s_if w6 (b := false) (et_cast (et_test (ev_notN (ev_var w6 rfl))) rfl) (fun z => by cases z) (fun _ H7 w7 => ?_)
            exact ⟨⟨_, _, w7⟩, step (by unfold barIn; rw [if_neg (by rw [e]; exact Bool.false_ne_true), ef]; rfl)⟩
          | some r =>
            rw [ef] at w6
            have z : findBar n ps l m = .tuple [.str "pair", .int k, .int ((k : Int) + 1 + i), .int r] := zB (x := some _) (firstOf_some (by omega) hn (firstOf_some (by omega) hin (by unfold barIn; rw [if_neg (by rw [e]; exact Bool.false_ne_true), ef]; rfl)))
            rw [z] at q
            refine s_if w6 (b := true) (et_cast (et_test (ev_notN (ev_var w6 rfl))) rfl) (fun _ H7 w7 => ?_) (fun z => by cases z)
            exact s_retQ w7 q (by walk_at "ev")
      · rintro σ H' ⟨⟨c3, c4, w3⟩, hin⟩
        refine ⟨⟨_, _, _, _, w3⟩, fun j hj => ?_⟩
        by_cases z : j = k
        · subst z
          exact firstOf_none hin
        · exact hn j (by omega)
    · rintro σ H' ⟨⟨c1, c2, c3, c4, w1⟩, hn⟩
      have z : findBar n ps l m = .none := zB (x := none) (firstOf_none hn)
      rw [z] at q
      exact s_retQ w1 q ev_non
end
end K1
set_option maxRecDepth 10000000
namespace K1
open PySem PySem.Spec PyProof.Rows L2 Pt
local macro_rules
  | `(tactic| walk_at "sz") => `(tactic| first
    | omega
    | decide
    | (simp; omega)
    | (simp [iL, row, pairsD]; omega))
  | `(tactic| walk_at "ea") => `(tactic| first
    | (with_reducible exact ea_nil)
    | ((with_reducible apply ea_consL); (focus (walk_at "ev")); (focus (walk_at "ea")))
    | ((with_reducible apply ea_consS); (focus (walk_at "ev")); (focus (walk_at "ea")))
    | ((with_reducible apply ea_cons); (focus (walk_at "ev")); (focus (walk_at "ea")))
    | ((with_reducible apply ea_consN); (focus (walk_at "en")); (focus (walk_at "ea"))))
  | `(tactic| walk_at "ed") => `(tactic| first
    | (with_reducible exact ed_nil)
    | ((with_reducible apply ed_cons); (focus (walk_at "ev")); (focus (walk_at "ed"))))
  | `(tactic| walk_at "en") => `(tactic| first
    | ((with_reducible apply en_lst); (focus (walk_at "ed")); (focus (simp)))
    | ((with_reducible apply en_listT); (focus (walk_at "ev")))
    | ((with_reducible apply en_addL); (focus (walk_at "ev")); (focus (walk_at "en")); (focus (walk_at "sz")))
    | ((with_reducible apply en_addN); (focus (walk_at "en")); (focus (walk_at "en")); (focus (walk_at "sz")))
    | ((with_reducible apply en_slL); (focus (walk_at "ev")); (focus (walk_at "eo")); (focus (walk_at "eo"))))
  | `(tactic| walk_at "eo") => `(tactic| first
    | (with_reducible exact eo_none)
    | ((with_reducible apply eo_some); (focus (walk_at "ev"))))
  | `(tactic| walk_at "et") => `(tactic| first
    | (with_reducible exact et_yes)
    | ((with_reducible apply et_test); (focus (walk_at "ev")))
    | ((with_reducible apply et_B); (focus (walk_at "ev")))
    | ((with_reducible apply et_truB); (focus (walk_at "ev")))
    | ((with_reducible apply et_truT); (focus (walk_at "ev")))
    | ((with_reducible apply et_not); (focus (walk_at "et")))
    | ((with_reducible apply et_and); (focus (walk_at "et")); (focus (intro _; walk_at "et")))
    | ((with_reducible apply et_or); (focus (walk_at "et")); (focus (intro _; walk_at "et"))))
  | `(tactic| walk_at "var") => `(tactic| first
    | ((with_reducible apply ev_varD); (focus (assumption)); (focus (rfl)))
    | ((with_reducible apply ev_varL); (focus (assumption)); (focus (rfl)))
    | ((with_reducible apply ev_varS); (focus (assumption)); (focus (rfl)))
    | ((with_reducible apply ev_varT); (focus (assumption)); (focus (rfl)))
    | ((with_reducible apply ev_varH); (focus (assumption)); (focus (rfl)))
    | ((with_reducible apply ev_varZ); (focus (assumption)); (focus (rfl))))
  | `(tactic| walk_at "ev") => `(tactic| first
    | walk_at "var"
    | (with_reducible exact ev_int)
    | (with_reducible exact ev_bl)
    | (with_reducible exact ev_str)
    | (with_reducible exact ev_non)
    | ((with_reducible apply ev_letters); (focus (walk_at "ev")))
    | ((with_reducible apply ev_pairs); (focus (walk_at "ev")))
    | ((with_reducible apply ev_addI); (focus (walk_at "ev")); (focus (walk_at "ev")))
    | ((with_reducible apply ev_addT); (focus (walk_at "ev")); (focus (walk_at "ev")); (focus (walk_at "sz")))
    | ((with_reducible apply ev_i0); (focus (walk_at "ev")); (focus (walk_at "ev")); (focus (first | exact fun _ => .int _ | exact fun _ => .bl _)))
    | ((with_reducible apply ev_iC); (focus (walk_at "ev")); (focus (walk_at "ev")); (focus (first | assumption | walk_at "cond")); (focus (exact fun _ => .int _)))
    | ((with_reducible apply ev_chain); (focus (walk_at "ev")); (focus (walk_at "ev")); (focus (walk_at "ev")))
    | ((with_reducible apply ev_eqI); (focus (walk_at "ev")); (focus (walk_at "ev")))
    | ((with_reducible apply ev_neI); (focus (walk_at "ev")); (focus (walk_at "ev")))
    | ((with_reducible apply ev_eqR); (focus (walk_at "ev")); (focus (walk_at "ev")))
    | ((with_reducible apply ev_neR); (focus (walk_at "ev")); (focus (walk_at "ev")))
    | ((with_reducible apply ev_isN); (focus (walk_at "ev")))
    | ((with_reducible apply ev_notN); (focus (walk_at "ev")))
    | ((with_reducible apply ev_in2); (focus (walk_at "ev")); (focus (walk_at "ev")); (focus (walk_at "ev")))
    | ((with_reducible apply ev_inP); (focus (walk_at "ev")); (focus (walk_at "ev")))
    | ((with_reducible apply ev_tup); (focus (walk_at "ed")); (focus (simp)))
    | ((with_reducible apply ev_lenT); (focus (walk_at "ev")))
    | ((with_reducible apply ev_lenL); (focus (walk_at "ev")))
    | ((with_reducible apply ev_lenS); (focus (walk_at "ev")))
    | ((with_reducible apply ev_lenN); (focus (walk_at "en")))
    | ((with_reducible apply ev_max2); (focus (walk_at "ev")); (focus (walk_at "ev")))
    | ((with_reducible apply ev_min2); (focus (walk_at "ev")); (focus (walk_at "ev")))
    | ((with_reducible apply ev_int1); (focus (walk_at "ev")))
    | ((with_reducible apply ev_tupleL); (focus (walk_at "ev")))
    | ((with_reducible apply ev_tupleN); (focus (walk_at "en")))
    | ((with_reducible apply ev_countT); (focus (walk_at "ev")); (focus (walk_at "ev")))
    | ((with_reducible apply ev_andV); (focus (walk_at "ev")); (focus (intro _; walk_at "ev")))
    | ((with_reducible apply ev_orV); (focus (walk_at "ev")); (focus (intro _; walk_at "ev")))
    | ((with_reducible apply ev_notV); (focus (walk_at "ev"))))
section
variable {P : Program} {w : World} {K : PySem.W.Frag} {mg : Str → Option Value} {base : Heap}
abbrev A_check_trade (as : List Ag) (d : PyData) : Prop := ∃ (n : Int) (ps : List (Int × Int)), as = [.c (.t n ps)] ∧ d = .none
theorem ok_check_trade (E : Nv K mg) : FnOk P w K mg base CX0 4 E.a_check_trade E.d_check_trade ["trade"] (spC K E.C_Trade A_check_trade) := by
  refine E.F_check_trade.ok sc_check_trade (fun vs H Q _ h => ?_) (fun cdv A outer s H vs Q _ hr h => ?_)
  · obtain ⟨as, d, ha, ⟨_, _, rfl, _⟩, _⟩ := h
    exact ha.length
  · obtain ⟨as, d, ha, ⟨n, ps, rfl, rfl⟩, q⟩ := h
    obtain ⟨v1, rfl, a1⟩ := ha.one
    refine ⟨_, (pss_one (ps_if (pt_not (pt_truK K (pe_callB (call_isiK K) (by rfl) E.n_isinstance (by decide +kernel) (pa_cons (pv 0) (pa_cons (pe_glob (v := .ref E.C_Trade) (by rfl) E.m_Trade rfl) pa_nil))) (fun _ => rfl))) (pss_one ps_never) pss_nil)), ?_⟩
    have w : Wd K E.C_Trade [] [] H H _ [.t n ps] := Wd.start1 (N := N_check_trade) a1
    refine s_if w (b := false) (et_cast (et_not (et_truB (ev_isiTr E.ic (ev_var w rfl)))) rfl) (fun z => by cases z) (fun _ H1 w1 => ?_)
    exact s_next (q .non H1 w1.fr0 .non)
def rowOk (n : Int) (l : List Int) : Prop := l.length ≤ 20 ∧ ∀ x ∈ l, 0 ≤ x ∧ x < n
def inR (n a : Int) : Bool := decide (0 ≤ a) && decide (a ≤ n - 1)
def rowB (n : Int) (l : List Int) : Bool := !decide (20 < (l.length : Int)) && l.all (inR n)
theorem rowB_of {n : Int} {l : List Int} (h : rowOk n l) : rowB n l = true := by
  obtain ⟨hl, hx⟩ := h
  have z : l.all (inR n) = true := List.all_eq_true.mpr fun x m => by
    have := hx x m
    simp [inR]
    omega
  unfold rowB
  rw [z, decide_eq_false (by omega)]
  rfl
abbrev A_is_row (as : List Ag) (d : PyData) : Prop := ∃ (n : Int) (l : List Int), l.length < 1000 ∧ as = [.c (.d (.int n)), .c (.d (row l))] ∧ d = .bool (rowB n l)
theorem ok_is_row (E : Nv K mg) : FnOk P w K mg base CX0 10 E.a_is_row E.d_is_row ["letters", "value"] (spC K E.C_Trade A_is_row) := by
  refine E.F_is_row.ok sc_is_row (fun vs H Q _ h => ?_) (fun cdv A outer s H vs Q _ hr h => ?_)
  · obtain ⟨as, d, ha, ⟨_, _, _, rfl, _⟩, _⟩ := h
    exact ha.length
  · obtain ⟨as, d, ha, ⟨n, l, hl, rfl, rfl⟩, q⟩ := h
    obtain ⟨v1, v2, rfl, a1, a2⟩ := ha.two
    refine ⟨_, (pss_cons (ps_if (PW.pt (pw_or (pt_not (pt_truK K (pe_callB (call_isiK K) (by rfl) E.n_isinstance (by decide +kernel) (pa_cons (pv 1) (pa_cons (pe_bltn (v := .ty "tuple") (by rfl) E.n_tuple (by decide +kernel) rfl) pa_nil))) (fun _ => rfl))) (pw_or1 (pt_cmpR (op_gt) (pe_callB (call_lenK K) (by rfl) E.n_len (by decide +kernel) (pa_cons (pv 1) pa_nil)) (pe_glob (v := .int 20) (by rfl) E.c_MOST_IN_ROW ⟨_, rfl⟩) (nomark _))))) (pss_one (ps_ret pe_bl)) pss_nil)
      (pss_one (ps_ret (pe_callB (call_allK K rfl) (by rfl) E.n_all (by decide +kernel) (pa_cons (pe_lc (own := [("letter", 2)]) (g := gName 2) (by rfl) sc_is_row.nd (pi_tupK K (pv 1)) (blkOk_by (own := [("letter", 2)]) (N := N_is_row) (sc := defScope s_is_row) (by decide +kernel)) (fun _ _ _ _ _ => (pg_name (i := 2) sc_is_row.nd rfl (Or.inl rfl))) (fun _ _ _ _ _ => pts_nil) (fun _ _ _ _ _ => (pe_call (ok_is_letter E) (hr.mono (by first | decide | omega)) (by rfl) E.m_is_letter E.F_is_letter.kp E.b_is_letter .nil pass0 (pa_cons (pv 0) (pa_cons (pv 2) pa_nil))))) pa_nil))))), ?_⟩
    have w : Wd K E.C_Trade [] [] H H _ [.d (.int n), .d (row l), .u] := Wd.start2 (N := N_is_row) a1 a2
    refine s_when w (b := decide (20 < (l.length : Int))) (et_cast (et_or (et_not (et_truB (ev_isiT (b := true) (ev_var w rfl) (by decide +kernel)))) (fun _ => et_test (ev_i0 (ev_lenT (ev_var w rfl)) ev_int (fun _ => .bl _)))) (by rw [iL_len]; rfl)) (fun e H1 w1 => ?_) (fun e H1 w1 => ?_)
    · have z : rowB n l = false := by
        unfold rowB
        rw [e]
        rfl
      rw [z] at q
      exact s_retQ w1 q (by walk_at "ev")
    · have z : rowB n l = l.all (inR n) := by
        unfold rowB
        rw [e]
        rfl
      rw [z] at q
      exact s_retQ w1 q (ev_allK (f := inR n) (l := l) (en_lcT (mk := PyData.int) w1 (ev_var w1 rfl) (fun _ => true) _ (by omega) (fun x _ σ1 H1 w1 => et_yes) (fun x _ σ1 H1 w1 _ => ev_call (by walk_at "ea") ⟨_, _, rfl, rfl⟩)))
abbrev A_check_row (as : List Ag) (d : PyData) : Prop := ∃ (n : Int) (ps : List (Int × Int)) (l : List Int), rowOk n l ∧ as = [.c (.t n ps), .c (.d (row l))] ∧ d = .none
theorem ok_check_row (E : Nv K mg) : FnOk P w K mg base CX0 12 E.a_check_row E.d_check_row ["trade", "row"] (spC K E.C_Trade A_check_row) := by
  refine E.F_check_row.ok sc_check_row (fun vs H Q _ h => ?_) (fun cdv A outer s H vs Q _ hr h => ?_)
  · obtain ⟨as, d, ha, ⟨_, _, _, _, rfl, _⟩, _⟩ := h
    exact ha.length
  · obtain ⟨as, d, ha, ⟨n, ps, l, ho, rfl, rfl⟩, q⟩ := h
    obtain ⟨v1, v2, rfl, a1, a2⟩ := ha.two
    refine ⟨_, (pss_one (ps_if (pt_not (pt_truK K (pe_call (ok_is_row E) (hr.mono (by first | decide | omega)) (by rfl) E.m_is_row E.F_is_row.kp E.b_is_row .nil pass0 (pa_cons (pe_prop (pv 0) E.cl E.p_letters (ok_Trade_letters E) (hr.mono (by first | decide | omega)) E.b_Trade_letters .nil pass0 rfl) (pa_cons (pv 1) pa_nil))) (fun _ => rfl))) (pss_one ps_never) pss_nil)), ?_⟩
    have w : Wd K E.C_Trade [] [] H H _ [.t n ps, .d (row l)] := Wd.start2 (N := N_check_row) a1 a2
    refine s_if w (b := false) (et_cast (et_not (et_truB (ev_call (by walk_at "ea") ⟨n, l, Nat.lt_of_le_of_lt ho.1 (by decide), rfl, rfl⟩))) (by rw [rowB_of ho]; rfl)) (fun z => by cases z) (fun _ H1 w1 => ?_)
    exact s_next (q .non H1 w1.fr0 .non)
abbrev A_check_rows (as : List Ag) (d : PyData) : Prop := ∃ (n : Int) (ps : List (Int × Int)) (l m : List Int), rowOk n l ∧ rowOk n m ∧ as = [.c (.t n ps), .c (.d (row l)), .c (.d (row m))] ∧ d = .none
theorem ok_check_rows (E : Nv K mg) : FnOk P w K mg base CX0 16 E.a_check_rows E.d_check_rows ["trade", "one", "other"] (spC K E.C_Trade A_check_rows) := by
  refine E.F_check_rows.ok sc_check_rows (fun vs H Q _ h => ?_) (fun cdv A outer s H vs Q _ hr h => ?_)
  · obtain ⟨as, d, ha, ⟨_, _, _, _, _, _, rfl, _⟩, _⟩ := h
    exact ha.length
  · obtain ⟨as, d, ha, ⟨n, ps, l, m, h1, h2, rfl, rfl⟩, q⟩ := h
    obtain ⟨v1, v2, v3, rfl, a1, a2, a3⟩ := ha.three
    refine ⟨_, (pss_cons (ps_expr (pe_call (ok_check_trade E) (hr.mono (by first | decide | omega)) (by rfl) E.m_check_trade E.F_check_trade.kp E.b_check_trade .nil pass0 (pa_cons (pv 0) pa_nil)))
      (pss_cons (ps_expr (pe_call (ok_check_row E) (hr.mono (by first | decide | omega)) (by rfl) E.m_check_row E.F_check_row.kp E.b_check_row .nil pass0 (pa_cons (pv 0) (pa_cons (pv 1) pa_nil))))
      (pss_one (ps_expr (pe_call (ok_check_row E) (hr.mono (by first | decide | omega)) (by rfl) E.m_check_row E.F_check_row.kp E.b_check_row .nil pass0 (pa_cons (pv 0) (pa_cons (pv 2) pa_nil))))))), ?_⟩
    have w : Wd K E.C_Trade [] [] H H _ [.t n ps, .d (row l), .d (row m)] := Wd.start3 (N := N_check_rows) a1 a2 a3
    refine q_drop w (ev_call (by walk_at "ea") ⟨_, _, rfl, rfl⟩) fun H1 w1 => ?_
    refine q_drop w1 (ev_call (by walk_at "ea") ⟨_, _, _, h1, rfl, rfl⟩) fun H2 w2 => ?_
    refine s_drop w2 (ev_call (by walk_at "ea") ⟨_, _, _, h2, rfl, rfl⟩) fun H3 w3 => ?_
    exact q .non H3 w3.fr0 .non
abbrev A_alike (as : List Ag) (d : PyData) : Prop := ∃ (n : Int) (ps : List (Int × Int)) (l m : List Int), 0 ≤ n ∧ n ≤ 6 ∧ rowOk n l ∧ rowOk n m ∧ as = [.c (.t n ps), .c (.d (row l)), .c (.d (row m))] ∧ d = .bool (isN (findBar n ps l m))
theorem ok_alike (E : Nv K mg) : FnOk P w K mg base CX0 20 E.a_alike E.d_alike ["trade", "one", "other"] (spC K E.C_Trade A_alike) := by
  refine E.F_alike.ok sc_alike (fun vs H Q _ h => ?_) (fun cdv A outer s H vs Q _ hr h => ?_)
  · obtain ⟨as, d, ha, ⟨_, _, _, _, _, _, _, _, rfl, _⟩, _⟩ := h
    exact ha.length
  · obtain ⟨as, d, ha, ⟨n, ps, l, m, h0, h6, h1, h2, rfl, rfl⟩, q⟩ := h
    obtain ⟨v1, v2, v3, rfl, a1, a2, a3⟩ := ha.three
    refine ⟨_, (pss_cons (ps_expr (pe_call (ok_check_rows E) (hr.mono (by first | decide | omega)) (by rfl) E.m_check_rows E.F_check_rows.kp E.b_check_rows .nil pass0 (pa_cons (pv 0) (pa_cons (pv 1) (pa_cons (pv 2) pa_nil)))))
      (pss_one (ps_ret (pe_cmpR (op_isN1) (pe_call (ok_find_bar E) (hr.mono (by first | decide | omega)) (by rfl) E.m_find_bar E.F_find_bar.kp E.b_find_bar .nil pass0 (pa_cons (pv 0) (pa_cons (pv 1) (pa_cons (pv 2) pa_nil)))) pe_non (nomark _))))), ?_⟩
    have w : Wd K E.C_Trade [] [] H H _ [.t n ps, .d (row l), .d (row m)] := Wd.start3 (N := N_alike) a1 a2 a3
    refine q_drop w (ev_call (by walk_at "ea") ⟨_, _, _, _, h1, h2, rfl, rfl⟩) fun H1 w1 => ?_
    exact s_retQ w1 q (ev_isN (ev_call (by walk_at "ea") ⟨_, _, _, _, h0, h6, Nat.lt_of_le_of_lt h1.1 (by decide), Nat.lt_of_le_of_lt h2.1 (by decide), rfl, rfl⟩))
/-! ### lead -/
/-- the places of changes: at turn t the letters r are left, to become ms -/
def leadGo : Nat → List Int → List Int → List Int
  | _, _, [] => []
  | t, r, x :: ms => (List.range (r.idxOf x)).map (fun i : Nat => ((t + r.idxOf x : Nat) : Int) - 1 - i) ++ leadGo (t + 1) (r.erase x) ms
def leadL (l m : List Int) : List Int := leadGo 0 l m
end
end K1
set_option maxRecDepth 10000000
namespace K1
open PySem PySem.Spec PyProof.Rows L2 Pt
local macro_rules
  | `(tactic| walk_at "sz") => `(tactic| first
    | omega
    | decide
    | (simp; omega)
    | (simp [iL, row, pairsD]; omega))
  | `(tactic| walk_at "ea") => `(tactic| first
    | (with_reducible exact ea_nil)
    | ((with_reducible apply ea_consL); (focus (walk_at "ev")); (focus (walk_at "ea")))
    | ((with_reducible apply ea_consS); (focus (walk_at "ev")); (focus (walk_at "ea")))
    | ((with_reducible apply ea_cons); (focus (walk_at "ev")); (focus (walk_at "ea")))
    | ((with_reducible apply ea_consN); (focus (walk_at "en")); (focus (walk_at "ea"))))
  | `(tactic| walk_at "ed") => `(tactic| first
    | (with_reducible exact ed_nil)
    | ((with_reducible apply ed_cons); (focus (walk_at "ev")); (focus (walk_at "ed"))))
  | `(tactic| walk_at "en") => `(tactic| first
    | ((with_reducible apply en_lst); (focus (walk_at "ed")); (focus (simp)))
    | ((with_reducible apply en_listT); (focus (walk_at "ev")))
    | ((with_reducible apply en_addL); (focus (walk_at "ev")); (focus (walk_at "en")); (focus (walk_at "sz")))
    | ((with_reducible apply en_addN); (focus (walk_at "en")); (focus (walk_at "en")); (focus (walk_at "sz")))
    | ((with_reducible apply en_slL); (focus (walk_at "ev")); (focus (walk_at "eo")); (focus (walk_at "eo"))))
  | `(tactic| walk_at "eo") => `(tactic| first
    | (with_reducible exact eo_none)
    | ((with_reducible apply eo_some); (focus (walk_at "ev"))))
  | `(tactic| walk_at "et") => `(tactic| first
    | (with_reducible exact et_yes)
    | ((with_reducible apply et_test); (focus (walk_at "ev")))
    | ((with_reducible apply et_B); (focus (walk_at "ev")))
    | ((with_reducible apply et_truB); (focus (walk_at "ev")))
    | ((with_reducible apply et_truT); (focus (walk_at "ev")))
    | ((with_reducible apply et_not); (focus (walk_at "et")))
    | ((with_reducible apply et_and); (focus (walk_at "et")); (focus (intro _; walk_at "et")))
    | ((with_reducible apply et_or); (focus (walk_at "et")); (focus (intro _; walk_at "et"))))
  | `(tactic| walk_at "var") => `(tactic| first
    | ((with_reducible apply ev_varD); (focus (assumption)); (focus (rfl)))
    | ((with_reducible apply ev_varL); (focus (assumption)); (focus (rfl)))
    | ((with_reducible apply ev_varS); (focus (assumption)); (focus (rfl)))
    | ((with_reducible apply ev_varT); (focus (assumption)); (focus (rfl)))
    | ((with_reducible apply ev_varH); (focus (assumption)); (focus (rfl)))
    | ((with_reducible apply ev_varZ); (focus (assumption)); (focus (rfl))))
  | `(tactic| walk_at "ev") => `(tactic| first
    | walk_at "var"
    | (with_reducible exact ev_int)
    | (with_reducible exact ev_bl)
    | (with_reducible exact ev_str)
    | (with_reducible exact ev_non)
    | ((with_reducible apply ev_letters); (focus (walk_at "ev")))
    | ((with_reducible apply ev_pairs); (focus (walk_at "ev")))
    | ((with_reducible apply ev_addI); (focus (walk_at "ev")); (focus (walk_at "ev")))
    | ((with_reducible apply ev_addT); (focus (walk_at "ev")); (focus (walk_at "ev")); (focus (walk_at "sz")))
    | ((with_reducible apply ev_i0); (focus (walk_at "ev")); (focus (walk_at "ev")); (focus (first | exact fun _ => .int _ | exact fun _ => .bl _)))
    | ((with_reducible apply ev_iC); (focus (walk_at "ev")); (focus (walk_at "ev")); (focus (first | assumption | walk_at "cond")); (focus (exact fun _ => .int _)))
    | ((with_reducible apply ev_chain); (focus (walk_at "ev")); (focus (walk_at "ev")); (focus (walk_at "ev")))
    | ((with_reducible apply ev_eqI); (focus (walk_at "ev")); (focus (walk_at "ev")))
    | ((with_reducible apply ev_neI); (focus (walk_at "ev")); (focus (walk_at "ev")))
    | ((with_reducible apply ev_eqR); (focus (walk_at "ev")); (focus (walk_at "ev")))
    | ((with_reducible apply ev_neR); (focus (walk_at "ev")); (focus (walk_at "ev")))
    | ((with_reducible apply ev_isN); (focus (walk_at "ev")))
    | ((with_reducible apply ev_notN); (focus (walk_at "ev")))
    | ((with_reducible apply ev_in2); (focus (walk_at "ev")); (focus (walk_at "ev")); (focus (walk_at "ev")))
    | ((with_reducible apply ev_inP); (focus (walk_at "ev")); (focus (walk_at "ev")))
    | ((with_reducible apply ev_tup); (focus (walk_at "ed")); (focus (simp)))
    | ((with_reducible apply ev_lenT); (focus (walk_at "ev")))
    | ((with_reducible apply ev_lenL); (focus (walk_at "ev")))
    | ((with_reducible apply ev_lenS); (focus (walk_at "ev")))
    | ((with_reducible apply ev_lenN); (focus (walk_at "en")))
    | ((with_reducible apply ev_max2); (focus (walk_at "ev")); (focus (walk_at "ev")))
    | ((with_reducible apply ev_min2); (focus (walk_at "ev")); (focus (walk_at "ev")))
    | ((with_reducible apply ev_int1); (focus (walk_at "ev")))
    | ((with_reducible apply ev_tupleL); (focus (walk_at "ev")))
    | ((with_reducible apply ev_tupleN); (focus (walk_at "en")))
    | ((with_reducible apply ev_countT); (focus (walk_at "ev")); (focus (walk_at "ev")))
    | ((with_reducible apply ev_andV); (focus (walk_at "ev")); (focus (intro _; walk_at "ev")))
    | ((with_reducible apply ev_orV); (focus (walk_at "ev")); (focus (intro _; walk_at "ev")))
    | ((with_reducible apply ev_notV); (focus (walk_at "ev"))))
section
variable {P : Program} {w : World} {K : PySem.W.Frag} {mg : Str → Option Value} {base : Heap}
abbrev A_is_pair (as : List Ag) (d : PyData) : Prop := ∃ (n a b : Int), as = [.c (.d (.int n)), .c (.d (row [a, b]))] ∧ d = .bool ([a, b].all (inR n) && decide (a < b))
theorem ok_is_pair (E : Nv K mg) : FnOk P w K mg base CX0 12 E.a_is_pair E.d_is_pair ["letters", "value"] (spC K E.C_Trade A_is_pair) := by
  refine E.F_is_pair.ok sc_is_pair (fun vs H Q _ h => ?_) (fun cdv A outer s H vs Q _ hr h => ?_)
  · obtain ⟨as, d, ha, ⟨_, _, _, rfl, _⟩, _⟩ := h
    exact ha.length
  · obtain ⟨as, d, ha, ⟨n, a, b, rfl, rfl⟩, q⟩ := h
    obtain ⟨v1, v2, rfl, a1, a2⟩ := ha.two
    refine ⟨_, (pss_cons (ps_if (PW.pt (pw_or (pt_not (pt_truK K (pe_callB (call_isiK K) (by rfl) E.n_isinstance (by decide +kernel) (pa_cons (pv 1) (pa_cons (pe_bltn (v := .ty "tuple") (by rfl) E.n_tuple (by decide +kernel) rfl) pa_nil))) (fun _ => rfl))) (pw_or1 (pt_cmpR (op_neK K hr.units) (pe_callB (call_lenK K) (by rfl) E.n_len (by decide +kernel) (pa_cons (pv 1) pa_nil)) pe_int (nomark _))))) (pss_one (ps_ret pe_bl)) pss_nil)
      (pss_cons (ps_if (pt_not (pt_truK K (pe_callB (call_allK K rfl) (by rfl) E.n_all (by decide +kernel) (pa_cons (pe_lc (own := [("letter", 2)]) (g := gName 2) (by rfl) sc_is_pair.nd (pi_tupK K (pv 1)) (blkOk_by (own := [("letter", 2)]) (N := N_is_pair) (sc := defScope s_is_pair) (by decide +kernel)) (fun _ _ _ _ _ => (pg_name (i := 2) sc_is_pair.nd rfl (Or.inl rfl))) (fun _ _ _ _ _ => pts_nil) (fun _ _ _ _ _ => (pe_call (ok_is_letter E) (hr.mono (by first | decide | omega)) (by rfl) E.m_is_letter E.F_is_letter.kp E.b_is_letter .nil pass0 (pa_cons (pv 0) (pa_cons (pv 2) pa_nil))))) pa_nil)) (fun _ => rfl))) (pss_one (ps_ret pe_bl)) pss_nil)
      (pss_one (ps_ret (pe_cmpR (op_lt) (pe_ix (ix_K K) (pv 1) pe_int (fun _ _ => rfl)) (pe_ix (ix_K K) (pv 1) pe_int (fun _ _ => rfl)) (nomark _)))))), ?_⟩
    have w : Wd K E.C_Trade [] [] H H _ [.d (.int n), .d (row [a, b]), .u] := Wd.start2 (N := N_is_pair) a1 a2
    refine s_when w (b := false) (et_cast (et_or (et_not (et_truB (ev_isiT (b := true) (ev_var w rfl) (by decide +kernel)))) (fun _ => et_test (ev_neI (ev_lenT (ev_var w rfl)) ev_int))) rfl) (fun z => by cases z) (fun _ H1 w1 => ?_)
    refine s_when w1 (b := !([a, b].all (inR n))) (et_not (et_truB (ev_allK (f := inR n) (l := [a, b]) (en_lcT (mk := PyData.int) w1 (ev_var w1 rfl) (fun _ => true) _ (by simp) (fun x _ σ1 H1 w1 => et_yes) (fun x _ σ1 H1 w1 _ => ev_call (by walk_at "ea") ⟨_, _, rfl, rfl⟩))))) (fun e H2 w2 => ?_) (fun e H2 w2 => ?_)
    · have z : [a, b].all (inR n) = false := by
        revert e
        cases [a, b].all (inR n) <;> intro e
        · rfl
        · cases e
      rw [z, Bool.false_and] at q
      exact s_retQ w2 q (by walk_at "ev")
    · have z : [a, b].all (inR n) = true := by
        revert e
        cases [a, b].all (inR n) <;> intro e
        · cases e
        · rfl
      rw [z, Bool.true_and] at q
      exact s_retQ w2 q (ev_i0 (ev_ixT (ev_var w2 rfl) ev_int (d := .int a) rfl) (ev_ixT (ev_var w2 rfl) ev_int (d := .int b) rfl) (fun _ => .bl _))
def ltP (p q : Int × Int) : Prop := p.1 < q.1 ∨ (p.1 = q.1 ∧ p.2 < q.2)
def PairsOk (n : Int) (ps : List (Int × Int)) : Prop := (∀ p ∈ ps, 0 ≤ p.1 ∧ p.1 < p.2 ∧ p.2 < n) ∧ ps.Pairwise ltP ∧ ps.length ≤ 1000
theorem lexAt2 (e r : Nat → Bool) (z : Bool) : Ob.lexAt e r z 0 2 = if e 0 = true then (if e 1 = true then z else r 1) else r 0 := rfl
theorem ev_leP {C : Addr} {H : Hp} {σ : L2.St} {ta tb : TE} {p q : Int × Int} (ha : EvC K C ta σ H (.d (Pt.pairD p))) (hb : EvC K C tb σ H (.d (Pt.pairD q))) (lt : ltP q p) : EvC K C (tOp (rLeT K) ta tb) σ H (.d (.bool false)) :=
  ev_op2 ha hb fun H1 _ x y a1 a2 Q k => by
    obtain ⟨a, xs, rfl, s, t⟩ := Td.tup_of a1
    obtain ⟨b, ys, rfl, s', t'⟩ := Td.tup_of a2
    have e1 : xs = [p.1, p.2].map V.int := TdAll.iL_of (l := [p.1, p.2]) t
    have e2 : ys = [q.1, q.2].map V.int := TdAll.iL_of (l := [q.1, q.2]) t'
    rw [e1] at s
    rw [e2] at s'
    refine ⟨a, b, [p.1, p.2], [q.1, q.2], rfl, rfl, s.sq, s'.sq, ?_⟩
    have z : Ob.lexAt (fun j => decide ([p.1, p.2].getD j 0 = [q.1, q.2].getD j 0)) (fun j => decide ([p.1, p.2].getD j 0 ≤ [q.1, q.2].getD j 0)) (decide ([p.1, p.2].length ≤ [q.1, q.2].length)) 0 (min [p.1, p.2].length [q.1, q.2].length) = false := by
      show Ob.lexAt _ _ _ 0 2 = false
      rw [lexAt2]
      unfold ltP at lt
      simp only [List.getD_cons_zero, List.getD_cons_succ, decide_eq_true_eq]
      split
      · split
        · omega
        · simp
          omega
      · simp
        omega
    rw [z]
    exact k _ H1 (Same.refl H1) (.bl _)
abbrev A_check_pairs (as : List Ag) (d : PyData) : Prop := ∃ (n : Int) (ps : List (Int × Int)), PairsOk n ps ∧ as = [.c (.d (.int n)), .c (.d (pairsD ps))] ∧ d = .none
theorem ok_check_pairs (E : Nv K mg) : FnOk P w K mg base CX0 16 E.a_check_pairs E.d_check_pairs ["letters", "pairs"] (spC K E.C_Trade A_check_pairs) := by
  refine E.F_check_pairs.ok sc_check_pairs (fun vs H Q _ h => ?_) (fun cdv A outer s H vs Q _ hr h => ?_)
  · obtain ⟨as, d, ha, ⟨_, _, _, rfl, _⟩, _⟩ := h
    exact ha.length
  · obtain ⟨as, d, ha, ⟨n, ps, ⟨hin, hso, hle⟩, rfl, rfl⟩, q⟩ := h
    obtain ⟨v1, v2, rfl, a1, a2⟩ := ha.two
    refine ⟨_, (pss_cons (ps_if (pt_not (pt_truK K (pe_callB (call_isiK K) (by rfl) E.n_isinstance (by decide +kernel) (pa_cons (pv 1) (pa_cons (pe_bltn (v := .ty "tuple") (by rfl) E.n_tuple (by decide +kernel) rfl) pa_nil))) (fun _ => rfl))) (pss_one ps_never) pss_nil)
      (pss_one (ps_for PassesOwn.never rfl (pi_enumTK K (by rfl) E.n_enumerate (pa_cons (pv 1) pa_nil)) (pg_tupK K (n := 2) rfl (pgs_cons (pg_name (i := 2) sc_check_pairs.nd rfl (.inl rfl)) (pgs_cons (pg_name (i := 3) sc_check_pairs.nd rfl (.inl rfl)) pgs_nil)))
      (pss_cons (ps_if (pt_not (pt_truK K (pe_call (ok_is_pair E) (hr.mono (by first | decide | omega)) (by rfl) E.m_is_pair E.F_is_pair.kp E.b_is_pair .nil pass0 (pa_cons (pv 0) (pa_cons (pv 3) pa_nil))) (fun _ => rfl))) (pss_one ps_never) pss_nil)
      (pss_one (ps_if (PW.pt (pw_and (pt_cmpR (op_gt) (pv 2) pe_int (nomark _)) (pw_and1 (pt_cmpR (op_leTK K hr.units0) (pv 3) (pe_ix (ix_K K) (pv 1) (pe_op op_sub (pv 2) pe_int) (fun _ _ => rfl)) (nomark _))))) (pss_one ps_never) pss_nil)))))), ?_⟩
    have w : Wd K E.C_Trade [] [] H H _ [.d (.int n), .d (pairsD ps), .u, .u] := Wd.start2 (N := N_check_pairs) a1 a2
    refine s_when w (b := false) (et_cast (et_not (et_truB (ev_isiT (b := true) (ev_var w rfl) (by decide +kernel)))) rfl) (fun z => by cases z) (fun _ H1 w1 => ?_)
    refine s_forE w1 (ev_var w1 rfl) (fun a t σ H' => ∃ c2 c3, Wd K E.C_Trade [] [(.ref a, pairsD ps)] H H' σ [.d (.int n), .d (pairsD ps), c2, c3]) (fun a H1 w1 => ⟨_, _, w1⟩) (fun a k σ' H' ⟨_, _, w1⟩ => w1.gh0) ?_ ?_
    · rintro a t d v σ' H' H3 hd tv ⟨c2, c3, w2⟩ e3
      have ht : t < ps.length := by
        have := (List.getElem?_eq_some_iff.mp hd).1
        rw [List.length_map] at this
        exact this
      have ed : d = Pt.pairD ps[t] := by
        rw [List.getElem?_map, List.getElem?_eq_getElem ht] at hd
        exact (Option.some.inj hd).symm
      subst ed
      have w3 : Wd K E.C_Trade [] [(.ref a, pairsD ps)] H H3 _ [.d (.int n), .d (pairsD ps), .d (.int (t : Nat)), .d (Pt.pairD ps[t])] := ((w2.mono e3).set 2 (v := .int (t : Nat)) (c := .d (.int (t : Nat))) (Td.int _)).set 3 tv
      have hp := hin ps[t] (List.getElem_mem ht)
      have hz : ([ps[t].1, ps[t].2].all (inR n) && decide (ps[t].1 < ps[t].2)) = true := by
        simp [inR]
        omega
      refine s_when w3 (b := false) (et_cast (et_not (et_truB (ev_call (ea_cons (ev_var w3 rfl) (ea_cons (c := .d (row [ps[t].1, ps[t].2])) (ev_var w3 rfl) ea_nil)) ⟨_, _, _, rfl, rfl⟩))) (by rw [hz]; rfl)) (fun z => by cases z) (fun _ H4 w4 => ?_)
      refine s_if w4 (b := false) (et_cast (et_and (a := decide ((0 : Int) < (t : Int))) (b := false) (et_test (ev_i0 (ev_var w4 rfl) ev_int (fun _ => .bl _))) (fun z => ?_)) (Bool.and_false _)) (fun z => by cases z) (fun _ H5 w5 => ?_)
      · have h1 : 0 < t := by simpa using z
        have h2 : t - 1 < ps.length := by omega
        have lt : ltP ps[t - 1] ps[t] := List.pairwise_iff_getElem.mp hso (t - 1) t h2 ht (by omega)
        refine et_test (ev_leP (ev_var w4 rfl) (q := ps[t - 1]) (ev_ixT (ev_var w4 rfl) (ev_i0 (ev_var w4 rfl) ev_int (fun _ => .int _)) ?_) lt)
        have e : ((t : Nat) : Int) - 1 = ((t - 1 : Nat) : Int) := by omega
        show atI (ps.map Pt.pairD) (((t : Nat) : Int) - 1) = _
        rw [e]
        exact atI_nat (by rw [List.getElem?_map, List.getElem?_eq_getElem h2]; rfl)
      · exact s_next ⟨_, _, w5⟩
    · rintro a σ' H' ⟨c2, c3, w2⟩
      exact q .non H' w2.fr0 .non
/-! ### Trade -/
def spInit (K : PySem.W.Frag) (C : Addr) : Sp := fun vs H Q _ => ∃ (p dx : Addr) (n : Int) (ps : List (Int × Int)) (v1 v2 : V), vs = [.ref p, v1, v2] ∧ H p = some (.ins C dx []) ∧ Td K H v1 (.int n) ∧ Td K H v2 (pairsD ps) ∧ 1 ≤ n ∧ n ≤ 6 ∧ PairsOk n ps ∧
  ∀ H', (∀ b o, H b = some o → b ≠ p → H' b = some o) → (∃ q, H' p = some (.ins C dx (flds n q)) ∧ Td K H' (.ref q) (pairsD ps)) → Q .non H'
theorem putF_flds (n : Int) (q : Addr) : putF "_pairs" (.ref q) (putF "_letters" (.int n) []) = flds n q := by
  show (if ("_letters" : Str) = "_pairs" then _ else _) = _
  rw [if_neg (fun e => by have := kne; rw [e, beq_self_eq_true] at this; cases this)]
  rfl
theorem Tx.ins {H : Hp} {p : Addr} {o : HO} {C dx : Addr} {fs : List (Str × V)} (h : H p = some (.ins C dx fs)) : Tx H (upd H p o) := fun a ob u e => by rw [upd_ne (ne_of e h (fun z => by cases z))]; exact e
theorem ok_Trade___init__ (E : Nv K mg) : FnOk P w K mg base CX0 20 E.a_Trade___init__ E.d_Trade___init__ ["self", "letters", "pairs"] (spInit K E.C_Trade) := by
  refine E.F_Trade___init__.ok sc_Trade___init__ (fun vs H Q _ h => ?_) (fun cdv A outer s H vs Q _ hr h => ?_)
  · obtain ⟨_, _, _, _, _, _, rfl, _⟩ := h
    rfl
  · obtain ⟨p, dx, n, ps, v1, v2, rfl, hp, t1, t2, h1, h6, hok, q⟩ := h
    refine ⟨_, (pss_cons (ps_if (pt_not (pt_truK K (pe_call (ok_is_whole E) (hr.mono (by first | decide | omega)) (by rfl) E.m_is_whole E.F_is_whole.kp E.b_is_whole .nil pass0 (pa_cons (pv 1) (pa_cons pe_int (pa_cons (pe_glob (v := .int 6) (by rfl) E.c_MOST_LETTERS ⟨_, rfl⟩) pa_nil)))) (fun _ => rfl))) (pss_one ps_never) pss_nil)
      (pss_cons (ps_expr (pe_call (ok_check_pairs E) (hr.mono (by first | decide | omega)) (by rfl) E.m_check_pairs E.F_check_pairs.kp E.b_check_pairs .nil pass0 (pa_cons (pv 1) (pa_cons (pv 2) pa_nil))))
      (pss_cons (ps_fld (pv 0) (pv 1) rfl)
      (pss_one (ps_fld (pv 0) (pv 2) rfl))))), ?_⟩
    have w : Wd K E.C_Trade [] [] H H _ [.r (.ref p), .d (.int n), .d (pairsD ps)] := Wd.start3 (N := N_Trade___init__) (c1 := .r (.ref p)) (c2 := .d (.int n)) (c3 := .d (pairsD ps)) rfl t1 t2
    refine s_when w (b := false) (et_cast (et_not (et_truB (ev_call (by walk_at "ea") ⟨n, 1, 6, rfl, rfl⟩))) (by simp; omega)) (fun z => by cases z) (fun _ H1 w1 => ?_)
    refine q_drop w1 (ev_call (by walk_at "ea") ⟨_, _, hok, rfl, rfl⟩) fun H2 w2 => ?_
    obtain ⟨x1, e1, s1⟩ := w2.get (i := 1) rfl
    obtain ⟨x2, e2, s2⟩ := w2.get (i := 2) rfl
    obtain ⟨x0, e0, rfl⟩ := w2.get (i := 0) rfl
    have hp2 : H2 p = some (.ins E.C_Trade dx []) := w2.fr0 _ _ hp
    rw [Td.int_of s1] at e1
    obtain ⟨qa, ys, rfl, sq, _⟩ := Td.tup_of s2
    refine ⟨.int n, e1, .ref p, e0, p, E.C_Trade, dx, [], rfl, hp2, E.cl, E.nl, by decide, ?_⟩
    refine ⟨.ref qa, e2, .ref p, e0, p, E.C_Trade, dx, _, rfl, upd_same, E.cl, E.np, by show 1 < 1000; decide, ?_⟩
    refine q _ (fun b o hb ne => ?_) ⟨qa, ?_, ?_⟩
    · rw [upd_upd, upd_ne ne]
      exact w2.fr0 _ _ hb
    · rw [upd_same, putF_flds]
    · rw [upd_upd]
      exact Td.mono (Tx.ins hp2) _ _ s2
theorem ev_makeT {C : Addr} {H : Hp} {σ : L2.St} {ta tb : TE} {E : XK} {n : Int} {ps : List (Int × Int)} (ha : EvC K C ta σ H (.d (.int n))) (hb : EvC K C tb σ H (.d (pairsD ps))) (h1 : 1 ≤ n) (h6 : n ≤ 6) (hok : PairsOk n ps) : EvC K C (tMake C (spInit K C) [] E (tCons ta (tCons tb tNil))) σ H (.t n ps) := fun H1 e1 Q q =>
  ha H1 e1 _ fun v H2 e2 a => hb H2 (e1.trans e2) _ fun y H3 e3 b => fun x dx nx ndx nex => by
    have s3 : Same H3 (upd (upd H3 dx (.own x)) x (.ins C dx [])) := fun c o e => by
      rw [upd_ne (ne_of_none e nx), upd_ne (ne_of_none e ndx)]
      exact e
    refine ⟨x, dx, n, ps, v, y, rfl, upd_same, Td.mono (.of (e3.trans s3)) _ _ a, Td.mono (.of s3) _ _ b, h1, h6, hok, fun H' k1 ⟨r, k2, k3⟩ => ⟨rfl, ?_⟩⟩
    exact q _ H' ((e2.trans e3).trans fun c o e => k1 c o (s3 c o e) (ne_of_none e nx)) ⟨x, dx, r, rfl, k2, k3⟩
theorem eqv_pairs : ∀ ps qs : List (Int × Int), PyData.eqv (pairsD ps) (pairsD qs) = decide (ps = qs) := by
  have z : ∀ ps qs : List (Int × Int), PyData.eqvAll (ps.map Pt.pairD) (qs.map Pt.pairD) = decide (ps = qs) := by
    intro ps
    induction ps with
    | nil => intro qs; cases qs <;> simp [PyData.eqvAll]
    | cons p ps ih =>
      intro qs
      cases qs with
      | nil => simp [PyData.eqvAll]
      | cons q qs =>
        have e : PyData.eqv (Pt.pairD p) (Pt.pairD q) = decide (p = q) := by
          have z := eqv_row [p.1, p.2] [q.1, q.2]
          show PyData.eqv (row [p.1, p.2]) (row [q.1, q.2]) = _
          rw [z]
          obtain ⟨a, b⟩ := p
          obtain ⟨c, d⟩ := q
          simp
        simp only [List.map_cons, PyData.eqvAll, e, ih]
        by_cases h : p = q <;> simp [h]
  intro ps qs
  show PyData.eqv (.tuple _) (.tuple _) = _
  simp only [PyData.eqv]
  exact z ps qs
theorem ev_eqP {C : Addr} {H : Hp} {σ : L2.St} {ta tb : TE} {k j : List (Int × Int)} (ha : EvC K C ta σ H (.d (pairsD k))) (hb : EvC K C tb σ H (.d (pairsD j))) : EvC K C (tOp (rEqD K) ta tb) σ H (.d (.bool (decide (k = j)))) :=
  eqv_pairs k j ▸ ev_eqD ha hb (shaped_pairs _) (shaped_pairs _)
abbrev A_eq (as : List Ag) (d : PyData) : Prop := (∃ (n m : Int) (ps qs : List (Int × Int)), as = [.c (.t n ps), .c (.t m qs)] ∧ d = .bool (decide (n = m) && decide (ps = qs))) ∨ ∃ (n : Int) (ps : List (Int × Int)) (ds : List PyData), as = [.c (.t n ps), .c (.d (.tuple ds))] ∧ d = .bool false
theorem ok_Trade___eq__ (E : Nv K mg) : FnOk P w K mg base CX0 8 E.a_Trade___eq__ E.d_Trade___eq__ ["self", "other"] (spC K E.C_Trade A_eq) := by
  refine E.F_Trade___eq__.ok sc_Trade___eq__ (fun vs H Q _ h => ?_) (fun cdv A outer s H vs Q _ hr h => ?_)
  · obtain ⟨as, d, ha, (⟨_, _, _, _, rfl, _⟩ | ⟨_, _, _, rfl, _⟩), _⟩ := h
    · exact ha.length
    · exact ha.length
  · obtain ⟨as, d, ha, hA, q⟩ := h
    refine ⟨_, (pss_one (ps_ret (pe_and (pe_callB (call_isiK K) (by rfl) E.n_isinstance (by decide +kernel) (pa_cons (pv 1) (pa_cons (pe_glob (v := .ref E.C_Trade) (by rfl) E.m_Trade rfl) pa_nil))) (pe_and (pe_cmpR (op_eqK K hr.units) (pe_prop (pv 0) E.cl E.p_letters (ok_Trade_letters E) (hr.mono (by first | decide | omega)) E.b_Trade_letters .nil pass0 rfl) (pe_prop (pv 1) E.cl E.p_letters (ok_Trade_letters E) (hr.mono (by first | decide | omega)) E.b_Trade_letters .nil pass0 rfl) (nomark _)) (pe_one (pe_cmpR (op_eqK K hr.units) (pe_prop (pv 0) E.cl E.p_pairs (ok_Trade_pairs E) (hr.mono (by first | decide | omega)) E.b_Trade_pairs .nil pass0 rfl) (pe_prop (pv 1) E.cl E.p_pairs (ok_Trade_pairs E) (hr.mono (by first | decide | omega)) E.b_Trade_pairs .nil pass0 rfl) (nomark _))))))), ?_⟩
    rcases hA with ⟨n, m, ps, qs, rfl, rfl⟩ | ⟨n, ps, ds, rfl, rfl⟩
    · obtain ⟨v1, v2, rfl, a1, a2⟩ := ha.two
      have w : Wd K E.C_Trade [] [] H H _ [.t n ps, .t m qs] := Wd.start2 (N := N_Trade___eq__) a1 a2
      exact s_retQ w q (ev_andV (a := true) (ev_isiTr E.ic (ev_var w rfl)) fun _ => ev_andV (by walk_at "ev") fun _ => ev_eqP (by walk_at "ev") (by walk_at "ev"))
    · obtain ⟨v1, v2, rfl, a1, a2⟩ := ha.two
      have w : Wd K E.C_Trade [] [] H H _ [.t n ps, .d (.tuple ds)] := Wd.start2 (N := N_Trade___eq__) a1 a2
      exact s_retQ w q (ev_andV (a := false) (b := false) (ev_isiTu E.ic (ev_var w rfl)) fun z => by cases z)
end
end K1
set_option maxRecDepth 10000000
namespace K1
open PySem PySem.Spec PyProof.Rows L2 Pt
local macro_rules
  | `(tactic| walk_at "sz") => `(tactic| first
    | omega
    | decide
    | (simp; omega)
    | (simp [iL, row, pairsD]; omega))
  | `(tactic| walk_at "ea") => `(tactic| first
    | (with_reducible exact ea_nil)
    | ((with_reducible apply ea_consL); (focus (walk_at "ev")); (focus (walk_at "ea")))
    | ((with_reducible apply ea_consS); (focus (walk_at "ev")); (focus (walk_at "ea")))
    | ((with_reducible apply ea_cons); (focus (walk_at "ev")); (focus (walk_at "ea")))
    | ((with_reducible apply ea_consN); (focus (walk_at "en")); (focus (walk_at "ea"))))
  | `(tactic| walk_at "ed") => `(tactic| first
    | (with_reducible exact ed_nil)
    | ((with_reducible apply ed_cons); (focus (walk_at "ev")); (focus (walk_at "ed"))))
  | `(tactic| walk_at "en") => `(tactic| first
    | ((with_reducible apply en_lst); (focus (walk_at "ed")); (focus (simp)))
    | ((with_reducible apply en_listT); (focus (walk_at "ev")))
    | ((with_reducible apply en_addL); (focus (walk_at "ev")); (focus (walk_at "en")); (focus (walk_at "sz")))
    | ((with_reducible apply en_addN); (focus (walk_at "en")); (focus (walk_at "en")); (focus (walk_at "sz")))
    | ((with_reducible apply en_slL); (focus (walk_at "ev")); (focus (walk_at "eo")); (focus (walk_at "eo"))))
  | `(tactic| walk_at "eo") => `(tactic| first
    | (with_reducible exact eo_none)
    | ((with_reducible apply eo_some); (focus (walk_at "ev"))))
  | `(tactic| walk_at "et") => `(tactic| first
    | (with_reducible exact et_yes)
    | ((with_reducible apply et_test); (focus (walk_at "ev")))
    | ((with_reducible apply et_B); (focus (walk_at "ev")))
    | ((with_reducible apply et_truB); (focus (walk_at "ev")))
    | ((with_reducible apply et_truT); (focus (walk_at "ev")))
    | ((with_reducible apply et_not); (focus (walk_at "et")))
    | ((with_reducible apply et_and); (focus (walk_at "et")); (focus (intro _; walk_at "et")))
    | ((with_reducible apply et_or); (focus (walk_at "et")); (focus (intro _; walk_at "et"))))
  | `(tactic| walk_at "var") => `(tactic| first
    | ((with_reducible apply ev_varD); (focus (assumption)); (focus (rfl)))
    | ((with_reducible apply ev_varL); (focus (assumption)); (focus (rfl)))
    | ((with_reducible apply ev_varS); (focus (assumption)); (focus (rfl)))
    | ((with_reducible apply ev_varT); (focus (assumption)); (focus (rfl)))
    | ((with_reducible apply ev_varH); (focus (assumption)); (focus (rfl)))
    | ((with_reducible apply ev_varZ); (focus (assumption)); (focus (rfl))))
  | `(tactic| walk_at "ev") => `(tactic| first
    | walk_at "var"
    | (with_reducible exact ev_int)
    | (with_reducible exact ev_bl)
    | (with_reducible exact ev_str)
    | (with_reducible exact ev_non)
    | ((with_reducible apply ev_letters); (focus (walk_at "ev")))
    | ((with_reducible apply ev_pairs); (focus (walk_at "ev")))
    | ((with_reducible apply ev_addI); (focus (walk_at "ev")); (focus (walk_at "ev")))
    | ((with_reducible apply ev_addT); (focus (walk_at "ev")); (focus (walk_at "ev")); (focus (walk_at "sz")))
    | ((with_reducible apply ev_i0); (focus (walk_at "ev")); (focus (walk_at "ev")); (focus (first | exact fun _ => .int _ | exact fun _ => .bl _)))
    | ((with_reducible apply ev_iC); (focus (walk_at "ev")); (focus (walk_at "ev")); (focus (first | assumption | walk_at "cond")); (focus (exact fun _ => .int _)))
    | ((with_reducible apply ev_chain); (focus (walk_at "ev")); (focus (walk_at "ev")); (focus (walk_at "ev")))
    | ((with_reducible apply ev_eqI); (focus (walk_at "ev")); (focus (walk_at "ev")))
    | ((with_reducible apply ev_neI); (focus (walk_at "ev")); (focus (walk_at "ev")))
    | ((with_reducible apply ev_eqR); (focus (walk_at "ev")); (focus (walk_at "ev")))
    | ((with_reducible apply ev_neR); (focus (walk_at "ev")); (focus (walk_at "ev")))
    | ((with_reducible apply ev_isN); (focus (walk_at "ev")))
    | ((with_reducible apply ev_notN); (focus (walk_at "ev")))
    | ((with_reducible apply ev_in2); (focus (walk_at "ev")); (focus (walk_at "ev")); (focus (walk_at "ev")))
    | ((with_reducible apply ev_inP); (focus (walk_at "ev")); (focus (walk_at "ev")))
    | ((with_reducible apply ev_tup); (focus (walk_at "ed")); (focus (simp)))
    | ((with_reducible apply ev_lenT); (focus (walk_at "ev")))
    | ((with_reducible apply ev_lenL); (focus (walk_at "ev")))
    | ((with_reducible apply ev_lenS); (focus (walk_at "ev")))
    | ((with_reducible apply ev_lenN); (focus (walk_at "en")))
    | ((with_reducible apply ev_max2); (focus (walk_at "ev")); (focus (walk_at "ev")))
    | ((with_reducible apply ev_min2); (focus (walk_at "ev")); (focus (walk_at "ev")))
    | ((with_reducible apply ev_int1); (focus (walk_at "ev")))
    | ((with_reducible apply ev_tupleL); (focus (walk_at "ev")))
    | ((with_reducible apply ev_tupleN); (focus (walk_at "en")))
    | ((with_reducible apply ev_countT); (focus (walk_at "ev")); (focus (walk_at "ev")))
    | ((with_reducible apply ev_andV); (focus (walk_at "ev")); (focus (intro _; walk_at "ev")))
    | ((with_reducible apply ev_orV); (focus (walk_at "ev")); (focus (intro _; walk_at "ev")))
    | ((with_reducible apply ev_notV); (focus (walk_at "ev"))))
section
variable {P : Program} {w : World} {K : PySem.W.Frag} {mg : Str → Option Value} {base : Heap}
def mayL (ps : List (Int × Int)) (a b : Int) : Bool := decide ((a, b) ∈ ps) || decide ((b, a) ∈ ps)
theorem mayL_eq {n : Int} {ps : List (Int × Int)} (h : PairsOk n ps) (a b : Int) : mayL ps a b = may ps a b := by
  have hlt : ∀ {x y : Int}, (x, y) ∈ ps → x < y := fun {x y} m => (h.1 _ m).2.1
  unfold mayL may
  rcases Int.lt_trichotomy a b with z | z | z
  · rw [Int.min_eq_left (by omega), Int.max_eq_right (by omega), decide_eq_false (p := (b, a) ∈ ps) (fun m => by have := hlt m; omega), Bool.or_false]
  · subst z
    rw [Int.min_eq_left (by omega), Int.max_eq_right (by omega), Bool.or_self]
  · rw [Int.min_eq_right (by omega), Int.max_eq_left (by omega), decide_eq_false (p := (a, b) ∈ ps) (fun m => by have := hlt m; omega), Bool.false_or]
abbrev A_law_may (as : List Ag) (d : PyData) : Prop := ∃ (ps : List (Int × Int)) (a b : Int), as = [.c (.d (pairsD ps)), .c (.d (.int a)), .c (.d (.int b))] ∧ d = .bool (mayL ps a b)
theorem ok__law_may (E : Nv K mg) : FnOk P w K mg base CX0 8 E.a__law_may E.d__law_may ["_law_pairs_here", "_law_a", "_law_b"] (spC K E.C_Trade A_law_may) := by
  refine E.F__law_may.ok sc__law_may (fun vs H Q _ h => ?_) (fun cdv A outer s H vs Q _ hr h => ?_)
  · obtain ⟨as, d, ha, ⟨_, _, _, rfl, _⟩, _⟩ := h
    exact ha.length
  · obtain ⟨as, d, ha, ⟨ps, a, b, rfl, rfl⟩, q⟩ := h
    obtain ⟨v1, v2, v3, rfl, a1, a2, a3⟩ := ha.three
    refine ⟨_, (pss_one (ps_ret (pe_or (pe_cmpR (op_inTK K hr.units65) (pe_tupF (pa_cons (pv 1) (pa_cons (pv 2) pa_nil))) (pv 0) (by with_unfolding_all rfl)) (pe_one (pe_cmpR (op_inTK K hr.units65) (pe_tupF (pa_cons (pv 2) (pa_cons (pv 1) pa_nil))) (pv 0) (by with_unfolding_all rfl)))))), ?_⟩
    have w : Wd K E.C_Trade [] [] H H _ [.d (pairsD ps), .d (.int a), .d (.int b)] := Wd.start3 (N := N__law_may) a1 a2 a3
    exact s_retQ w q (ev_orV (by walk_at "ev") fun _ => by walk_at "ev")
abbrev A_law_bar (as : List Ag) (d : PyData) : Prop := ∃ (n : Int) (ps : List (Int × Int)) (l m : List Int), PairsOk n ps ∧ 0 ≤ n ∧ n ≤ 6 ∧ l.length < 1000 ∧ m.length < 1000 ∧ as = [.c (.d (.int n)), .c (.d (pairsD ps)), .c (.d (row l)), .c (.d (row m))] ∧ d = findBar n ps l m
theorem count_filter (l : List Int) (a : Int) : (l.filter fun x => decide (x = a)).length = l.count a := by
  rw [List.count_eq_countP, List.countP_eq_length_filter]
  congr 1
end
end K1
set_option maxRecDepth 10000000
namespace K1
open PySem PySem.Spec PyProof.Rows L2 Pt
local macro_rules
  | `(tactic| walk_at "sz") => `(tactic| first
    | omega
    | decide
    | (simp; omega)
    | (simp [iL, row, pairsD]; omega))
  | `(tactic| walk_at "ea") => `(tactic| first
    | (with_reducible exact ea_nil)
    | ((with_reducible apply ea_consL); (focus (walk_at "ev")); (focus (walk_at "ea")))
    | ((with_reducible apply ea_consS); (focus (walk_at "ev")); (focus (walk_at "ea")))
    | ((with_reducible apply ea_cons); (focus (walk_at "ev")); (focus (walk_at "ea")))
    | ((with_reducible apply ea_consN); (focus (walk_at "en")); (focus (walk_at "ea"))))
  | `(tactic| walk_at "ed") => `(tactic| first
    | (with_reducible exact ed_nil)
    | ((with_reducible apply ed_cons); (focus (walk_at "ev")); (focus (walk_at "ed"))))
  | `(tactic| walk_at "en") => `(tactic| first
    | ((with_reducible apply en_lst); (focus (walk_at "ed")); (focus (simp)))
    | ((with_reducible apply en_listT); (focus (walk_at "ev")))
    | ((with_reducible apply en_addL); (focus (walk_at "ev")); (focus (walk_at "en")); (focus (walk_at "sz")))
    | ((with_reducible apply en_addN); (focus (walk_at "en")); (focus (walk_at "en")); (focus (walk_at "sz")))
    | ((with_reducible apply en_slL); (focus (walk_at "ev")); (focus (walk_at "eo")); (focus (walk_at "eo"))))
  | `(tactic| walk_at "eo") => `(tactic| first
    | (with_reducible exact eo_none)
    | ((with_reducible apply eo_some); (focus (walk_at "ev"))))
  | `(tactic| walk_at "et") => `(tactic| first
    | (with_reducible exact et_yes)
    | ((with_reducible apply et_test); (focus (walk_at "ev")))
    | ((with_reducible apply et_B); (focus (walk_at "ev")))
    | ((with_reducible apply et_truB); (focus (walk_at "ev")))
    | ((with_reducible apply et_truT); (focus (walk_at "ev")))
    | ((with_reducible apply et_not); (focus (walk_at "et")))
    | ((with_reducible apply et_and); (focus (walk_at "et")); (focus (intro _; walk_at "et")))
    | ((with_reducible apply et_or); (focus (walk_at "et")); (focus (intro _; walk_at "et"))))
  | `(tactic| walk_at "var") => `(tactic| first
    | ((with_reducible apply ev_varD); (focus (assumption)); (focus (rfl)))
    | ((with_reducible apply ev_varL); (focus (assumption)); (focus (rfl)))
    | ((with_reducible apply ev_varS); (focus (assumption)); (focus (rfl)))
    | ((with_reducible apply ev_varT); (focus (assumption)); (focus (rfl)))
    | ((with_reducible apply ev_varH); (focus (assumption)); (focus (rfl)))
    | ((with_reducible apply ev_varZ); (focus (assumption)); (focus (rfl))))
  | `(tactic| walk_at "ev") => `(tactic| first
    | walk_at "var"
    | (with_reducible exact ev_int)
    | (with_reducible exact ev_bl)
    | (with_reducible exact ev_str)
    | (with_reducible exact ev_non)
    | ((with_reducible apply ev_letters); (focus (walk_at "ev")))
    | ((with_reducible apply ev_pairs); (focus (walk_at "ev")))
    | ((with_reducible apply ev_addI); (focus (walk_at "ev")); (focus (walk_at "ev")))
    | ((with_reducible apply ev_addT); (focus (walk_at "ev")); (focus (walk_at "ev")); (focus (walk_at "sz")))
    | ((with_reducible apply ev_i0); (focus (walk_at "ev")); (focus (walk_at "ev")); (focus (first | exact fun _ => .int _ | exact fun _ => .bl _)))
    | ((with_reducible apply ev_iC); (focus (walk_at "ev")); (focus (walk_at "ev")); (focus (first | assumption | walk_at "cond")); (focus (exact fun _ => .int _)))
    | ((with_reducible apply ev_chain); (focus (walk_at "ev")); (focus (walk_at "ev")); (focus (walk_at "ev")))
    | ((with_reducible apply ev_eqI); (focus (walk_at "ev")); (focus (walk_at "ev")))
    | ((with_reducible apply ev_neI); (focus (walk_at "ev")); (focus (walk_at "ev")))
    | ((with_reducible apply ev_eqR); (focus (walk_at "ev")); (focus (walk_at "ev")))
    | ((with_reducible apply ev_neR); (focus (walk_at "ev")); (focus (walk_at "ev")))
    | ((with_reducible apply ev_isN); (focus (walk_at "ev")))
    | ((with_reducible apply ev_notN); (focus (walk_at "ev")))
    | ((with_reducible apply ev_in2); (focus (walk_at "ev")); (focus (walk_at "ev")); (focus (walk_at "ev")))
    | ((with_reducible apply ev_inP); (focus (walk_at "ev")); (focus (walk_at "ev")))
    | ((with_reducible apply ev_tup); (focus (walk_at "ed")); (focus (simp)))
    | ((with_reducible apply ev_lenT); (focus (walk_at "ev")))
    | ((with_reducible apply ev_lenL); (focus (walk_at "ev")))
    | ((with_reducible apply ev_lenS); (focus (walk_at "ev")))
    | ((with_reducible apply ev_lenN); (focus (walk_at "en")))
    | ((with_reducible apply ev_max2); (focus (walk_at "ev")); (focus (walk_at "ev")))
    | ((with_reducible apply ev_min2); (focus (walk_at "ev")); (focus (walk_at "ev")))
    | ((with_reducible apply ev_int1); (focus (walk_at "ev")))
    | ((with_reducible apply ev_tupleL); (focus (walk_at "ev")))
    | ((with_reducible apply ev_tupleN); (focus (walk_at "en")))
    | ((with_reducible apply ev_countT); (focus (walk_at "ev")); (focus (walk_at "ev")))
    | ((with_reducible apply ev_andV); (focus (walk_at "ev")); (focus (intro _; walk_at "ev")))
    | ((with_reducible apply ev_orV); (focus (walk_at "ev")); (focus (intro _; walk_at "ev")))
    | ((with_reducible apply ev_notV); (focus (walk_at "ev"))))
section
variable {P : Program} {w : World} {K : PySem.W.Frag} {mg : Str → Option Value} {base : Heap}
def okAt (ps : List (Int × Int)) (l : List Int) (k : Nat) : Prop := ∃ a b, l[k]? = some a ∧ l[k + 1]? = some b ∧ may ps a b = true
def swapAt (l : List Int) (k : Nat) : List Int := l.take k ++ [l.getD (k + 1) 0, l.getD k 0] ++ l.drop (k + 2)
theorem swapAt_len {l : List Int} {k : Nat} (h : k + 1 < l.length) : (swapAt l k).length = l.length := by
  unfold swapAt
  rw [List.length_append, List.length_append, List.length_take, List.length_drop]
  simp
  omega
inductive Walks (ps : List (Int × Int)) : List Int → List Int → List Int → Prop
  | nil {l : List Int} : Walks ps l [] l
  | cons {l : List Int} {k : Nat} {ks m : List Int} : okAt ps l k → Walks ps (swapAt l k) ks m → Walks ps l ((k : Int) :: ks) m
theorem Walks.inv {ps : List (Int × Int)} {l ks m : List Int} {x : Int} (h : Walks ps l (x :: ks) m) : ∃ k : Nat, x = (k : Int) ∧ okAt ps l k ∧ Walks ps (swapAt l k) ks m := by
  cases h with
  | cons h1 h2 => exact ⟨_, rfl, h1, h2⟩
theorem okAt_lt {ps : List (Int × Int)} {l : List Int} {k : Nat} (h : okAt ps l k) : k + 1 < l.length := by
  obtain ⟨a, b, _, h, _⟩ := h
  exact (List.getElem?_eq_some_iff.mp h).1
theorem ev_swap {C : Addr} {H : Hp} {σ : L2.St} {te1 te2 te3 te4 : TE} {tc1 tc2 : TO} {l : List Int} {k : Nat} (h : k + 1 < l.length) (hl : l.length < 1000)
    (h1 : EvC K C te1 σ H (.d (row l))) (h2 : EvO tc1 σ H (some (k : Int))) (h3 : EvC K C te2 σ H (.d (.int (l.getD (k + 1) 0)))) (h4 : EvC K C te3 σ H (.d (.int (l.getD k 0)))) (h5 : EvC K C te4 σ H (.d (row l))) (h6 : EvO tc2 σ H (some ((k + 2 : Nat) : Int))) :
    EvC K C (tOp (rAddU K) (tOp (rAddU K) (tSl (rSlU K) te1 tNoPart tc1) (tTupF (tCons te2 (tCons te3 tNil)))) (tSl (rSlU K) te4 tc2 tNoPart)) σ H (.d (row (swapAt l k))) := by
  refine ev_d (ev_addT (ev_addT (ev_slT h1 eo_none h2) (ev_tup (ed_cons h3 (ed_cons h4 ed_nil))) ?_) (ev_slT h5 h6 eo_none) ?_) ?_
  · rw [cut_to, iL]
    simp
    omega
  · rw [cut_to, cut_from, iL]
    simp
    omega
  · rw [cut_to, cut_from]
    show PyData.tuple _ = .tuple (iL (swapAt l k))
    unfold swapAt iL
    simp [List.map_append, List.map_take, List.map_drop]
def posL (m : List Int) (y : Int) : List Nat := (List.range m.length).filter fun j => decide (m[j]? = some y)
def placesL (l m : List Int) : List Int := (List.range l.length).map fun k => (((posL m (l.getD k 0)).getD ((l.take k).count (l.getD k 0)) 0 : Nat) : Int)
def inv : List Int → Nat
  | [] => 0
  | x :: r => (r.filter fun y => decide (y < x)).length + inv r
theorem posL_length (m : List Int) (y : Int) : (posL m y).length = m.count y := by
  unfold posL
  induction m with
  | nil => rfl
  | cons x m ih =>
    rw [List.length_cons, List.range_succ_eq_map, List.count_cons, ← ih]
    have e : (List.filter (fun j => decide ((x :: m)[j]? = some y)) ((List.range m.length).map Nat.succ)).length = ((List.range m.length).filter fun j => decide (m[j]? = some y)).length := by
      rw [List.filter_map, List.length_map]
      rfl
    rw [List.filter_cons]
    by_cases h : x = y
    · rw [if_pos (by simp [h]), List.length_cons, e, if_pos (by simp [h])]
    · rw [if_neg (by simp [h]), e, if_neg (by simp [h])]
      rfl
abbrev A_law_flips (as : List Ag) (d : PyData) : Prop := ∃ (l m : List Int), l.length ≤ 20 ∧ l.Perm m ∧ as = [.c (.d (row l)), .c (.d (row m))] ∧ d = .int (inv (placesL l m) : Nat)
theorem count_take_lt {l : List Int} {k : Nat} (h : k < l.length) : (l.take k).count l[k] < l.count l[k] := by
  have e : l.count l[k] = (l.take k).count l[k] + (l.drop k).count l[k] := by rw [← List.count_append, List.take_append_drop]
  have e2 : l.drop k = l[k] :: l.drop (k + 1) := List.drop_eq_getElem_cons h
  rw [e, e2, List.count_cons_self]
  omega
end
end K1
set_option maxRecDepth 10000000
namespace K1
open PySem PySem.Spec PyProof.Rows L2 Pt
local macro_rules
  | `(tactic| walk_at "sz") => `(tactic| first
    | omega
    | decide
    | (simp; omega)
    | (simp [iL, row, pairsD]; omega))
  | `(tactic| walk_at "ea") => `(tactic| first
    | (with_reducible exact ea_nil)
    | ((with_reducible apply ea_consL); (focus (walk_at "ev")); (focus (walk_at "ea")))
    | ((with_reducible apply ea_consS); (focus (walk_at "ev")); (focus (walk_at "ea")))
    | ((with_reducible apply ea_cons); (focus (walk_at "ev")); (focus (walk_at "ea")))
    | ((with_reducible apply ea_consN); (focus (walk_at "en")); (focus (walk_at "ea"))))
  | `(tactic| walk_at "ed") => `(tactic| first
    | (with_reducible exact ed_nil)
    | ((with_reducible apply ed_cons); (focus (walk_at "ev")); (focus (walk_at "ed"))))
  | `(tactic| walk_at "en") => `(tactic| first
    | ((with_reducible apply en_lst); (focus (walk_at "ed")); (focus (simp)))
    | ((with_reducible apply en_listT); (focus (walk_at "ev")))
    | ((with_reducible apply en_addL); (focus (walk_at "ev")); (focus (walk_at "en")); (focus (walk_at "sz")))
    | ((with_reducible apply en_addN); (focus (walk_at "en")); (focus (walk_at "en")); (focus (walk_at "sz")))
    | ((with_reducible apply en_slL); (focus (walk_at "ev")); (focus (walk_at "eo")); (focus (walk_at "eo"))))
  | `(tactic| walk_at "eo") => `(tactic| first
    | (with_reducible exact eo_none)
    | ((with_reducible apply eo_some); (focus (walk_at "ev"))))
  | `(tactic| walk_at "et") => `(tactic| first
    | (with_reducible exact et_yes)
    | ((with_reducible apply et_test); (focus (walk_at "ev")))
    | ((with_reducible apply et_B); (focus (walk_at "ev")))
    | ((with_reducible apply et_truB); (focus (walk_at "ev")))
    | ((with_reducible apply et_truT); (focus (walk_at "ev")))
    | ((with_reducible apply et_not); (focus (walk_at "et")))
    | ((with_reducible apply et_and); (focus (walk_at "et")); (focus (intro _; walk_at "et")))
    | ((with_reducible apply et_or); (focus (walk_at "et")); (focus (intro _; walk_at "et"))))
  | `(tactic| walk_at "var") => `(tactic| first
    | ((with_reducible apply ev_varD); (focus (assumption)); (focus (rfl)))
    | ((with_reducible apply ev_varL); (focus (assumption)); (focus (rfl)))
    | ((with_reducible apply ev_varS); (focus (assumption)); (focus (rfl)))
    | ((with_reducible apply ev_varT); (focus (assumption)); (focus (rfl)))
    | ((with_reducible apply ev_varH); (focus (assumption)); (focus (rfl)))
    | ((with_reducible apply ev_varZ); (focus (assumption)); (focus (rfl))))
  | `(tactic| walk_at "ev") => `(tactic| first
    | walk_at "var"
    | (with_reducible exact ev_int)
    | (with_reducible exact ev_bl)
    | (with_reducible exact ev_str)
    | (with_reducible exact ev_non)
    | ((with_reducible apply ev_letters); (focus (walk_at "ev")))
    | ((with_reducible apply ev_pairs); (focus (walk_at "ev")))
    | ((with_reducible apply ev_addI); (focus (walk_at "ev")); (focus (walk_at "ev")))
    | ((with_reducible apply ev_addT); (focus (walk_at "ev")); (focus (walk_at "ev")); (focus (walk_at "sz")))
    | ((with_reducible apply ev_i0); (focus (walk_at "ev")); (focus (walk_at "ev")); (focus (first | exact fun _ => .int _ | exact fun _ => .bl _)))
    | ((with_reducible apply ev_iC); (focus (walk_at "ev")); (focus (walk_at "ev")); (focus (first | assumption | walk_at "cond")); (focus (exact fun _ => .int _)))
    | ((with_reducible apply ev_chain); (focus (walk_at "ev")); (focus (walk_at "ev")); (focus (walk_at "ev")))
    | ((with_reducible apply ev_eqI); (focus (walk_at "ev")); (focus (walk_at "ev")))
    | ((with_reducible apply ev_neI); (focus (walk_at "ev")); (focus (walk_at "ev")))
    | ((with_reducible apply ev_eqR); (focus (walk_at "ev")); (focus (walk_at "ev")))
    | ((with_reducible apply ev_neR); (focus (walk_at "ev")); (focus (walk_at "ev")))
    | ((with_reducible apply ev_isN); (focus (walk_at "ev")))
    | ((with_reducible apply ev_notN); (focus (walk_at "ev")))
    | ((with_reducible apply ev_in2); (focus (walk_at "ev")); (focus (walk_at "ev")); (focus (walk_at "ev")))
    | ((with_reducible apply ev_inP); (focus (walk_at "ev")); (focus (walk_at "ev")))
    | ((with_reducible apply ev_tup); (focus (walk_at "ed")); (focus (simp)))
    | ((with_reducible apply ev_lenT); (focus (walk_at "ev")))
    | ((with_reducible apply ev_lenL); (focus (walk_at "ev")))
    | ((with_reducible apply ev_lenS); (focus (walk_at "ev")))
    | ((with_reducible apply ev_lenN); (focus (walk_at "en")))
    | ((with_reducible apply ev_max2); (focus (walk_at "ev")); (focus (walk_at "ev")))
    | ((with_reducible apply ev_min2); (focus (walk_at "ev")); (focus (walk_at "ev")))
    | ((with_reducible apply ev_int1); (focus (walk_at "ev")))
    | ((with_reducible apply ev_tupleL); (focus (walk_at "ev")))
    | ((with_reducible apply ev_tupleN); (focus (walk_at "en")))
    | ((with_reducible apply ev_countT); (focus (walk_at "ev")); (focus (walk_at "ev")))
    | ((with_reducible apply ev_andV); (focus (walk_at "ev")); (focus (intro _; walk_at "ev")))
    | ((with_reducible apply ev_orV); (focus (walk_at "ev")); (focus (intro _; walk_at "ev")))
    | ((with_reducible apply ev_notV); (focus (walk_at "ev"))))
section
variable {P : Program} {w : World} {K : PySem.W.Frag} {mg : Str → Option Value} {base : Heap}
theorem cmulR {i j : Int} (h : -(2 ^ 64) < j ∧ j < 2 ^ 64) : CMul i j := .inr h
theorem ok__law_mix (E : Nv K mg) : FnOk P w K mg base CX0 4 E.a__law_mix E.d__law_mix ["_law_script", "_law_seed"] (spM K E.C_Trade) := by
  refine E.F__law_mix.ok sc__law_mix (fun vs H Q _ h => ?_) (fun cdv A outer s H vs Q _ hr h => ?_)
  · obtain ⟨z, cells, v1, k, rfl, _⟩ := h
    rfl
  · obtain ⟨z, cells, v1, k, rfl, hz, hl, q⟩ := h
    refine ⟨_, (pss_cons (ps_set (i := 2) sc__law_mix.nd rfl (.inl rfl) (pv 1))
      (pss_cons (ps_for PassesOwn.never rfl (pi_listK K (pv 0)) (pg_name (i := 3) sc__law_mix.nd rfl (.inl rfl))
      (pss_one (ps_set (i := 2) sc__law_mix.nd rfl (.inl rfl) (pe_op op_mod (pe_callTy call_int1' (by rfl) E.n_int (by decide +kernel) (pa_cons (pe_op (op_addK K) (pe_op (op_addK K) (pe_op op_mul (pv 2) pe_int) (pe_op op_mod (pe_callTy call_int1' (by rfl) E.n_int (by decide +kernel) (pa_cons (pv 3) pa_nil)) pe_int)) pe_int) pa_nil)) pe_int))))
      (pss_one (ps_ret (pe_lst (pa_cons (pv 2) (pa_cons (pe_callTy (call_listK K) (by rfl) E.n_list (by decide +kernel) (pa_cons (pv 0) pa_nil)) (pa_cons pe_int pa_nil)))))))), ?_⟩
    have w : Wd K E.C_Trade [] [] H H _ [.z z (iL cells), .d (.int k), .u, .u] := Wd.start2 (N := N__law_mix) (c1 := .z z (iL cells)) (c2 := .d (.int k)) hz (Td.int k)
    refine q_asgD w (ev_var w rfl) fun σ1 H1 w1 => ?_
    refine q_forZ w1 (ev_var (i := 0) w1 rfl) (fun t σ H' => ∃ (st : Int) (c3 : Ct), Wd K E.C_Trade [] [] H H' σ [.z z (iL cells), .d (.int k), .d (.int st), c3]) (fun H2 w2 => ⟨_, _, w2⟩) (fun t σ H' ⟨st, c3, w2⟩ => ?_) ?_ ?_
    · obtain ⟨v, _, _, xs, s, t⟩ := w2.get (i := 0) rfl
      exact ⟨xs, s.sq, t⟩
    · rintro t d v σ H' hd tv ⟨st, c3, w2⟩
      obtain ⟨x, rfl⟩ : ∃ x : Int, d = .int x := by
        rw [iL_get] at hd
        cases e : cells[t]? with
        | none => rw [e] at hd; cases hd
        | some x => rw [e] at hd; exact ⟨x, (Option.some.inj hd).symm⟩
      have w3 : Wd K E.C_Trade [] [] H H' _ [.z z (iL cells), .d (.int k), .d (.int st), .d (.int x)] := w2.set 3 tv
      refine s_asgD w3 (ev_iC (ev_int1 (ev_addI (ev_addI (ev_iC (ev_var w3 rfl) ev_int (cmulR ⟨by decide, by decide⟩) (fun _ => .int _)) (ev_iC (ev_int1 (ev_var w3 rfl)) ev_int (by decide) (fun _ => .int _))) ev_int)) ev_int (by decide) (fun _ => .int _)) fun σ4 H4 w4 => ⟨_, _, w4⟩
    · rintro σ H' ⟨st, c3, w2⟩
      unfold tRet tLst tCons
      refine (ev_var w2 rfl : EvC K E.C_Trade (tVar 2) σ H' (.d (.int st))) H' (Same.refl H') _ fun v H2 e2 a2 => ?_
      rw [Td.int_of a2]
      refine (en_listZ (ev_var (w2.mono e2) rfl) : EvN K E.C_Trade _ σ H2 (iL cells)) H2 (Same.refl H2) _ fun c H3 hc e3 a3 => ?_
      obtain ⟨_, xs, hx, tx⟩ := a3
      rw [tx.iL_of] at hx
      refine ⟨by show 3 ≤ sizeLine; decide, fun p hp => ?_⟩
      have hpc : p ≠ c := ne_of_none' hp hx
      have e4 : Same H3 (upd H3 p (.lst [.int st, .ref c, .int 0])) := same_new hp
      have f0 := ((w2.mono e2).mono e3).fr0
      refine q p c _ ?_ ?_ (f0.trans e4) (show Src _ p c st 0 cells from ⟨upd_same, e4 _ _ hx, hpc, hl⟩).ct
      · exact f0.free hp
      · exact (w2.mono e2).fresh0 hc
theorem ok__law_next (E : Nv K mg) : FnOk P w K mg base CX0 4 E.a__law_next E.d__law_next ["_law_h", "_law_bound"] (spH K E.C_Trade) := by
  refine E.F__law_next.ok sc__law_next (fun vs H Q _ h => ?_) (fun cdv A outer s H vs Q _ hr h => ?_)
  · obtain ⟨p, c, b, rfl, _⟩ := h
    rfl
  · obtain ⟨p, c, b, rfl, ⟨_, hpc, st, k, cells, hp, hc, hl⟩, hb1, hb2, q⟩ := h
    refine ⟨_, (pss_cons (ps_set (i := 2) sc__law_next.nd rfl (.inl rfl) (pe_ix (ix_K K) (pe_op (op_addK K) (pe_ix (ix_K K) (pv 0) pe_int (fun _ _ => rfl)) (pe_lst (pa_cons pe_int pa_nil))) (pe_op op_mod (pe_callTy call_int1' (by rfl) E.n_int (by decide +kernel) (pa_cons (pe_ix (ix_K K) (pv 0) pe_int (fun _ _ => rfl)) pa_nil)) (pe_callB (call_max2' rfl) (by rfl) E.n_max (by decide +kernel) (pa_cons pe_int (pa_cons (pe_callB (call_lenK K) (by rfl) E.n_len (by decide +kernel) (pa_cons (pe_ix (ix_K K) (pv 0) pe_int (fun _ _ => rfl)) pa_nil)) pa_nil)))) (fun _ _ => rfl)))
      (pss_cons (ps_if (pt_cmpR (op_ge) (pv 2) (pe_op op_pow pe_int pe_int) (nomark _)) (pss_cons (ps_set (i := 3) sc__law_next.nd rfl (.inl rfl) (pe_ix (ix_K K) (pv 0) pe_int (fun _ _ => rfl)))
      (pss_cons (ps_asg (pe_op op_fdiv (pv 2) (pv 1)) (pg_sub (pv 3) (pe_op op_mod (pe_callTy call_int1' (by rfl) E.n_int (by decide +kernel) (pa_cons (pe_ix (ix_K K) (pv 0) pe_int (fun _ _ => rfl)) pa_nil)) (pe_callB (call_lenK K) (by rfl) E.n_len (by decide +kernel) (pa_cons (pv 3) pa_nil))) set_list))
      (pss_one (ps_ret (pe_op op_mod (pe_callTy call_int1' (by rfl) E.n_int (by decide +kernel) (pa_cons (pv 2) pa_nil)) (pv 1)))))) pss_nil)
      (pss_cons (ps_asg (pe_op op_mod (pe_callTy call_int1' (by rfl) E.n_int (by decide +kernel) (pa_cons (pe_op (op_addK K) (pe_op (op_addK K) (pe_op op_mul (pe_ix (ix_K K) (pv 0) pe_int (fun _ _ => rfl)) pe_int) (pe_op op_mul (pv 2) pe_int)) pe_int) pa_nil)) pe_int) (pg_sub (pv 0) pe_int set_list))
      (pss_cons (ps_asg (pe_op (op_addK K) (pe_ix (ix_K K) (pv 0) pe_int (fun _ _ => rfl)) pe_int) (pg_sub (pv 0) pe_int set_list))
      (pss_one (ps_ret (pe_op op_mod (pe_callTy call_int1' (by rfl) E.n_int (by decide +kernel) (pa_cons (pe_op op_fdiv (pe_ix (ix_K K) (pv 0) pe_int (fun _ _ => rfl)) pe_int) pa_nil)) (pv 1)))))))), ?_⟩
    have S0 : Src H p c st k cells := ⟨hp, hc, hpc, hl⟩
    have hM : (0 : Int) < max 1 (cells.length : Int) := by omega
    have i0 := Int.emod_nonneg k (show max 1 (cells.length : Int) ≠ 0 by omega)
    have i1 := Int.emod_lt_of_pos k hM
    have hj : (k % max 1 (cells.length : Int)).toNat < (cells ++ [0]).length := by
      rw [List.length_append]
      simp only [List.length_cons, List.length_nil]
      omega
    obtain ⟨cell, hcell⟩ : ∃ cell, (cells ++ [0])[(k % max 1 (cells.length : Int)).toNat]? = some cell := ⟨_, List.getElem?_eq_getElem hj⟩
    have g0 : atI (iL cells ++ [.int 0]) (k % max 1 (cells.length : Int)) = some (.int cell) := by
      have e : k % max 1 (cells.length : Int) = ((k % max 1 (cells.length : Int)).toNat : Int) := by omega
      rw [e]
      refine atI_nat ?_
      have z : iL cells ++ [.int 0] = iL (cells ++ [0]) := by rw [iL_app]; rfl
      rw [z, iL_get, hcell]
      rfl
    refine (ev_ixN (K := K) (C := E.C_Trade) (d := .int cell) (en_addL (src_c S0 rfl) (en_lst (ed_cons ev_int ed_nil)) (by rw [iL_len]; simp; omega)) (ev_iC (ev_int1 (src_k S0 rfl)) (ev_max2 ev_int (ev_d (ev_lenL (src_c S0 rfl)) (by rw [iL_len]))) hM (fun _ => .int _)) g0) H (Same.refl H) _ fun v H1 e1 a1 => ?_
    rw [Td.int_of a1]
    have S1 := S0.mono e1
    refine (et_test (ev_i0 (K := K) (C := E.C_Trade) (ev_at (k := cell) rfl) (ev_iC (d := .int (10 ^ 18)) ev_int ev_int ⟨by decide, by decide, by decide⟩ (fun _ => .int _)) (fun _ => .bl _))) H1 (Same.refl H1) _ fun H2 e2 => ?_
    have S2 := S1.mono e2
    by_cases hbig : (10 ^ 18 : Int) ≤ cell
    · rw [if_pos (decide_eq_true hbig)]
      have hj2 : (k % max 1 (cells.length : Int)).toNat < cells.length := by
        rcases Nat.lt_or_ge (k % max 1 (cells.length : Int)).toNat cells.length with z | z
        · exact z
        · have e : (k % max 1 (cells.length : Int)).toNat = cells.length := by
            rw [List.length_append] at hj
            simp only [List.length_cons, List.length_nil] at hj
            omega
          rw [e, List.getElem?_append_right (Nat.le_refl _), Nat.sub_self] at hcell
          have : cell = 0 := by simpa using hcell.symm
          rw [this] at hbig
          exact absurd hbig (by decide)
      have hlen : (0 : Int) < (cells.length : Int) := by omega
      refine (src_c (K := K) (C := E.C_Trade) S2 rfl) H2 (Same.refl H2) _ fun v H3 e3 a3 => ?_
      obtain ⟨rfl, _⟩ := a3
      have S3 := S2.mono e3
      refine (ev_iC (K := K) (C := E.C_Trade) (d := .int (cell / b)) (ev_at (k := cell) rfl) (ev_at (k := b) rfl) ⟨by omega, by omega⟩ (fun _ => .int _)) H3 (Same.refl H3) _ fun v H4 e4 a4 => ?_
      rw [Td.int_of a4]
      have S4 := S3.mono e4
      refine ⟨.ref c, rfl, ?_⟩
      refine (ev_iC (K := K) (C := E.C_Trade) (d := .int (k % (cells.length : Int))) (ev_int1 (src_k S4 rfl)) (ev_d (ev_lenL (ev_lstAt rfl S4.2.1)) (by rw [iL_len])) hlen (fun _ => .int _)) H4 (Same.refl H4) _ fun v H5 e5 a5 => ?_
      rw [Td.int_of a5]
      have S5 := S4.mono e5
      have j0 := Int.emod_nonneg k (show (cells.length : Int) ≠ 0 by omega)
      have j1 := Int.emod_lt_of_pos k hlen
      refine ⟨c, _, _, (k % (cells.length : Int)).toNat, rfl, rfl, S5.2.1, ?_, ?_⟩
      · unfold ixN
        rw [List.length_map, if_pos j0, if_pos (by omega)]
      · have S6 : Src (upd H5 c (.lst ((cells.map V.int).set (k % (cells.length : Int)).toNat (.int (cell / b))))) p c st k (cells.set (k % (cells.length : Int)).toNat (cell / b)) := by
          refine ⟨by rw [upd_ne hpc]; exact S5.1, ?_, hpc, by rw [List.length_set]; exact hl⟩
          rw [upd_same, List.map_set]
        refine (ev_iC (K := K) (C := E.C_Trade) (d := .int (cell % b)) (ev_int1 (ev_at (k := cell) rfl)) (ev_at (k := b) rfl) (by omega) (fun _ => .int _)) _ (Same.refl _) _ fun v H7 e7 a7 => ?_
        rw [Td.int_of a7]
        refine q _ _ (Int.emod_nonneg _ (by omega)) (Int.emod_lt_of_pos _ (by omega)) ?_ (S6.mono e7).ct
        exact (((Fr.of (((e1.trans e2).trans e3).trans (e4.trans e5)) _).trans (Fr.updIn (by simp))).trans (Fr.of e7 _))
    · rw [if_neg (by simpa using hbig)]
      refine (ev_iC (K := K) (C := E.C_Trade) (ev_int1 (ev_addI (ev_addI (ev_iC (src_s S2 rfl) ev_int (cmulR ⟨by decide, by decide⟩) (fun _ => .int _)) (ev_iC (ev_at (k := cell) rfl) ev_int (cmulR ⟨by decide, by decide⟩) (fun _ => .int _))) ev_int)) ev_int (by decide) (fun _ => .int _)) H2 (Same.refl H2) _ fun v H3 e3 a3 => ?_
      rw [Td.int_of a3]
      have S3 := S2.mono e3
      generalize ((st * 48271 + cell * 69621 + 11) % 2147483647) = st'
      refine ⟨.ref p, rfl, p, _, 0, 0, rfl, rfl, S3.1, rfl, ?_⟩
      have S4 : Src (upd H3 p (.lst ([V.int st, .ref c, .int k].set 0 (.int st')))) p c st' k cells := ⟨upd_same, by rw [upd_ne (Ne.symm hpc)]; exact S3.2.1, hpc, hl⟩
      refine (ev_addI (K := K) (C := E.C_Trade) (src_k S4 rfl) (ev_int (k := 1))) _ (Same.refl _) _ fun v H5 e5 a5 => ?_
      rw [Td.int_of a5]
      have S5 := S4.mono e5
      refine ⟨.ref p, rfl, p, _, 2, 2, rfl, rfl, S5.1, rfl, ?_⟩
      have S6 : Src (upd H5 p (.lst ([V.int st', .ref c, .int k].set 2 (.int (k + 1))))) p c st' (k + 1) cells := ⟨upd_same, by rw [upd_ne (Ne.symm hpc)]; exact S5.2.1, hpc, hl⟩
      refine (ev_iC (K := K) (C := E.C_Trade) (ev_int1 (ev_iC (src_s S6 rfl) (ev_int (k := 7)) ⟨by decide, by decide⟩ (fun _ => .int _))) (ev_at (k := b) rfl) (by omega) (fun _ => .int _)) _ (Same.refl _) _ fun v H7 e7 a7 => ?_
      rw [Td.int_of a7]
      refine q _ _ (Int.emod_nonneg _ (by omega)) (Int.emod_lt_of_pos _ (by omega)) ?_ (S6.mono e7).ct
      exact (((((Fr.of ((e1.trans e2).trans e3) _).trans (Fr.updIn (by simp))).trans (Fr.of e5 _)).trans (Fr.updIn (by simp))).trans (Fr.of e7 _))
end
end K1
set_option maxRecDepth 10000000
namespace K1
open PySem PySem.Spec PyProof.Rows L2 Pt
local macro_rules
  | `(tactic| walk_at "sz") => `(tactic| first
    | omega
    | decide
    | (simp; omega)
    | (simp [iL, row, pairsD]; omega))
  | `(tactic| walk_at "ea") => `(tactic| first
    | (with_reducible exact ea_nil)
    | ((with_reducible apply ea_consL); (focus (walk_at "ev")); (focus (walk_at "ea")))
    | ((with_reducible apply ea_consS); (focus (walk_at "ev")); (focus (walk_at "ea")))
    | ((with_reducible apply ea_cons); (focus (walk_at "ev")); (focus (walk_at "ea")))
    | ((with_reducible apply ea_consN); (focus (walk_at "en")); (focus (walk_at "ea"))))
  | `(tactic| walk_at "ed") => `(tactic| first
    | (with_reducible exact ed_nil)
    | ((with_reducible apply ed_cons); (focus (walk_at "ev")); (focus (walk_at "ed"))))
  | `(tactic| walk_at "en") => `(tactic| first
    | ((with_reducible apply en_lst); (focus (walk_at "ed")); (focus (simp)))
    | ((with_reducible apply en_listT); (focus (walk_at "ev")))
    | ((with_reducible apply en_addL); (focus (walk_at "ev")); (focus (walk_at "en")); (focus (walk_at "sz")))
    | ((with_reducible apply en_addN); (focus (walk_at "en")); (focus (walk_at "en")); (focus (walk_at "sz")))
    | ((with_reducible apply en_slL); (focus (walk_at "ev")); (focus (walk_at "eo")); (focus (walk_at "eo"))))
  | `(tactic| walk_at "eo") => `(tactic| first
    | (with_reducible exact eo_none)
    | ((with_reducible apply eo_some); (focus (walk_at "ev"))))
  | `(tactic| walk_at "et") => `(tactic| first
    | (with_reducible exact et_yes)
    | ((with_reducible apply et_test); (focus (walk_at "ev")))
    | ((with_reducible apply et_B); (focus (walk_at "ev")))
    | ((with_reducible apply et_truB); (focus (walk_at "ev")))
    | ((with_reducible apply et_truT); (focus (walk_at "ev")))
    | ((with_reducible apply et_not); (focus (walk_at "et")))
    | ((with_reducible apply et_and); (focus (walk_at "et")); (focus (intro _; walk_at "et")))
    | ((with_reducible apply et_or); (focus (walk_at "et")); (focus (intro _; walk_at "et"))))
  | `(tactic| walk_at "var") => `(tactic| first
    | ((with_reducible apply ev_varD); (focus (assumption)); (focus (rfl)))
    | ((with_reducible apply ev_varL); (focus (assumption)); (focus (rfl)))
    | ((with_reducible apply ev_varS); (focus (assumption)); (focus (rfl)))
    | ((with_reducible apply ev_varT); (focus (assumption)); (focus (rfl)))
    | ((with_reducible apply ev_varH); (focus (assumption)); (focus (rfl)))
    | ((with_reducible apply ev_varZ); (focus (assumption)); (focus (rfl))))
  | `(tactic| walk_at "ev") => `(tactic| first
    | walk_at "var"
    | (with_reducible exact ev_int)
    | (with_reducible exact ev_bl)
    | (with_reducible exact ev_str)
    | (with_reducible exact ev_non)
    | ((with_reducible apply ev_letters); (focus (walk_at "ev")))
    | ((with_reducible apply ev_pairs); (focus (walk_at "ev")))
    | ((with_reducible apply ev_addI); (focus (walk_at "ev")); (focus (walk_at "ev")))
    | ((with_reducible apply ev_addT); (focus (walk_at "ev")); (focus (walk_at "ev")); (focus (walk_at "sz")))
    | ((with_reducible apply ev_i0); (focus (walk_at "ev")); (focus (walk_at "ev")); (focus (first | exact fun _ => .int _ | exact fun _ => .bl _)))
    | ((with_reducible apply ev_iC); (focus (walk_at "ev")); (focus (walk_at "ev")); (focus (first | assumption | walk_at "cond")); (focus (exact fun _ => .int _)))
    | ((with_reducible apply ev_chain); (focus (walk_at "ev")); (focus (walk_at "ev")); (focus (walk_at "ev")))
    | ((with_reducible apply ev_eqI); (focus (walk_at "ev")); (focus (walk_at "ev")))
    | ((with_reducible apply ev_neI); (focus (walk_at "ev")); (focus (walk_at "ev")))
    | ((with_reducible apply ev_eqR); (focus (walk_at "ev")); (focus (walk_at "ev")))
    | ((with_reducible apply ev_neR); (focus (walk_at "ev")); (focus (walk_at "ev")))
    | ((with_reducible apply ev_isN); (focus (walk_at "ev")))
    | ((with_reducible apply ev_notN); (focus (walk_at "ev")))
    | ((with_reducible apply ev_in2); (focus (walk_at "ev")); (focus (walk_at "ev")); (focus (walk_at "ev")))
    | ((with_reducible apply ev_inP); (focus (walk_at "ev")); (focus (walk_at "ev")))
    | ((with_reducible apply ev_tup); (focus (walk_at "ed")); (focus (simp)))
    | ((with_reducible apply ev_lenT); (focus (walk_at "ev")))
    | ((with_reducible apply ev_lenL); (focus (walk_at "ev")))
    | ((with_reducible apply ev_lenS); (focus (walk_at "ev")))
    | ((with_reducible apply ev_lenN); (focus (walk_at "en")))
    | ((with_reducible apply ev_max2); (focus (walk_at "ev")); (focus (walk_at "ev")))
    | ((with_reducible apply ev_min2); (focus (walk_at "ev")); (focus (walk_at "ev")))
    | ((with_reducible apply ev_int1); (focus (walk_at "ev")))
    | ((with_reducible apply ev_tupleL); (focus (walk_at "ev")))
    | ((with_reducible apply ev_tupleN); (focus (walk_at "en")))
    | ((with_reducible apply ev_countT); (focus (walk_at "ev")); (focus (walk_at "ev")))
    | ((with_reducible apply ev_andV); (focus (walk_at "ev")); (focus (intro _; walk_at "ev")))
    | ((with_reducible apply ev_orV); (focus (walk_at "ev")); (focus (intro _; walk_at "ev")))
    | ((with_reducible apply ev_notV); (focus (walk_at "ev"))))
section
variable {P : Program} {w : World} {K : PySem.W.Frag} {mg : Str → Option Value} {base : Heap}
abbrev A_law_pairs (as : List Ag) : Prop := ∃ n : Int, as = [.c (.d (.int n))] ∧ 1 ≤ n ∧ n ≤ 6
abbrev R_law_pairs (as : List Ag) (d : PyData) : Prop := ∃ (n : Int) (ps : List (Int × Int)), as = [.c (.d (.int n))] ∧ PairsOk n ps ∧ d = pairsD ps
/-- so far: pairs below (a, b) -/
def Upto (n a b : Int) (ps : List (Int × Int)) : Prop := (∀ p ∈ ps, 0 ≤ p.1 ∧ p.1 < p.2 ∧ p.2 < n) ∧ ps.Pairwise ltP ∧ ∀ p ∈ ps, ltP p (a, b)
theorem Upto.mono {n a b a' b' : Int} {ps : List (Int × Int)} (h : Upto n a b ps) (l : ltP (a, b) (a', b') ∨ (a, b) = (a', b')) : Upto n a' b' ps := ⟨h.1, h.2.1, fun p m => by
  rcases l with l | l
  · have := h.2.2 p m
    unfold ltP at this l ⊢
    simp only at this l ⊢
    omega
  · rw [← l]; exact h.2.2 p m⟩
theorem Upto.snoc {n a b : Int} {ps : List (Int × Int)} (h : Upto n a b ps) (h0 : 0 ≤ a) (h1 : a < b) (h2 : b < n) : Upto n a (b + 1) (ps ++ [(a, b)]) := by
  refine ⟨fun p m => ?_, List.pairwise_append.mpr ⟨h.2.1, List.pairwise_singleton _ _, fun p m q m' => ?_⟩, fun p m => ?_⟩
  · rcases List.mem_append.mp m with m | m
    · exact h.1 p m
    · rw [List.mem_singleton.mp m]; exact ⟨h0, h1, h2⟩
  · rw [List.mem_singleton.mp m']; exact h.2.2 p m
  · rcases List.mem_append.mp m with m | m
    · exact (h.mono (a' := a) (b' := b + 1) (.inl (.inr ⟨rfl, by show b < b + 1; omega⟩))).2.2 p m
    · rw [List.mem_singleton.mp m]; exact .inr ⟨rfl, by show b < b + 1; omega⟩
theorem ok__law_pairs (E : Nv K mg) : FnOk P w K mg base CX0 8 E.a__law_pairs E.d__law_pairs ["_law_h", "_law_letters"] (spDr K E.C_Trade A_law_pairs R_law_pairs) := by
  refine E.F__law_pairs.ok sc__law_pairs (fun vs H Q _ h => ?_) (fun cdv A outer s H vs Q _ hr h => ?_)
  · obtain ⟨p, c, ws, as, rfl, _, ha, ⟨_, rfl, _⟩, _⟩ := h
    exact congrArg (· + 1) ha.length
  · obtain ⟨p, c, ws, as, rfl, hs, ha, ⟨n, rfl, n1, n6⟩, q⟩ := h
    obtain ⟨v1, rfl, a1⟩ := ha.one
    refine ⟨_, (pss_cons (ps_par (i := 2) (j := 3) (by rfl) sc__law_pairs.nd rfl rfl (by decide) rfl rfl (pa_cons (pe_call (ok__law_next E) (hr.mono (by first | decide | omega)) (by rfl) E.m__law_next E.F__law_next.kp E.b__law_next .nil pass0 (pa_cons (pv 0) (pa_cons pe_int pa_nil))) (pa_cons (pe_lst pa_nil) pa_nil)) (by rfl))
      (pss_cons (ps_for PassesOwn.never rfl (pi_range1 (by rfl) E.n_range (pa_cons (pv 1) pa_nil)) (pg_name (i := 4) sc__law_pairs.nd rfl (.inl rfl))
      (pss_one (ps_for PassesOwn.never rfl (pi_range2 (by rfl) E.n_range (pa_cons (pe_op (op_addK K) (pv 4) pe_int) (pa_cons (pv 1) pa_nil))) (pg_name (i := 5) sc__law_pairs.nd rfl (.inl rfl))
      (pss_one (ps_if (PW.pt (pw_or (pt_cmpR (op_eqK K hr.units) (pv 2) pe_int (nomark _)) (pw_or1 (PW.pt (pw_and (pt_cmpR (op_lt) (pv 2) pe_int (nomark _)) (pw_and1 (pt_cmpR (op_eqK K hr.units) (pe_call (ok__law_next E) (hr.mono (by first | decide | omega)) (by rfl) E.m__law_next E.F__law_next.kp E.b__law_next .nil pass0 (pa_cons (pv 0) (pa_cons pe_int pa_nil))) pe_int (nomark _)))))))) (pss_one (ps_expr (pe_bm PySem.F.plainAttrs_list PySem.F.slot_list_append PySem.F.type_list_append mt_append (pv 3) (pa_cons (pe_tupF (pa_cons (pv 4) (pa_cons (pv 5) pa_nil))) pa_nil)))) pss_nil)))))
      (pss_one (ps_ret (pe_callTy (call_tupleK K) (by rfl) E.n_tuple (by decide +kernel) (pa_cons (pv 3) pa_nil)))))), ?_⟩
    have w : Wd K E.C_Trade [p, c] [] H H _ [.h p c, .d (.int n), .u, .u, .u, .u] := Wd.startH (N := N__law_pairs) (vs := [v1]) (cs := [.d (.int n)]) ⟨hs, a1, True.intro⟩ rfl (Nat.le_of_ble_eq_true rfl)
    refine q_parDr w rfl (by decide) (by decide) fun r l σ2 H2 r0 r1 w2' => ?_
    have w2 : Wd K E.C_Trade [p, c] [] H H2 σ2 [.h p c, .d (.int n), .d (.int r), .l l [], .u, .u] := w2'
    refine q_forR1 w2 (n := n) (by walk_at "ea") (by omega) (fun k σ H' => ∃ c4 c5 ps, Wd K E.C_Trade [p, c] [] H H' σ [.h p c, .d (.int n), .d (.int r), .l l (ps.map Pt.pairD), c4, c5] ∧ Upto n k 0 ps ∧ ps.length ≤ 6 * k) (fun H1 w1 => ⟨_, _, [], w1, ⟨fun p m => by simp at m, .nil, fun p m => by simp at m⟩, by simp⟩) ?_ ?_
    · rintro k σ H' hk ⟨c4, c5, ps, w3, hu, hl⟩
      have w4 : Wd K E.C_Trade [p, c] [] H H' _ [.h p c, .d (.int n), .d (.int r), .l l (ps.map Pt.pairD), .d (.int k), c5] := w3.set 4 (v := .int k) (.int _)
      refine s_forR2 w4 (lo := (k : Int) + 1) (n := n) (by walk_at "ea") (by omega) (fun i σ H' => ∃ c5 ps, Wd K E.C_Trade [p, c] [] H H' σ [.h p c, .d (.int n), .d (.int r), .l l (ps.map Pt.pairD), .d (.int k), c5] ∧ Upto n k ((k : Int) + 1 + i) ps ∧ ps.length ≤ 6 * k + i) (fun H1 w1 => ⟨_, ps, w1, hu.mono (.inl (.inr ⟨rfl, by show (0 : Int) < (k : Int) + 1 + ((0 : Nat) : Int); omega⟩)), by omega⟩) ?_ ?_
      · rintro i σ H' hi ⟨c5, ps, w5, hu, hl⟩
        have w6 : Wd K E.C_Trade [p, c] [] H H' _ [.h p c, .d (.int n), .d (.int r), .l l (ps.map Pt.pairD), .d (.int k), .d (.int ((k : Int) + 1 + i))] := w5.set 5 (v := .int ((k : Int) + 1 + i)) (.int _)
        have e1 : (k : Int) + 1 + ((i + 1 : Nat) : Int) = (k : Int) + 1 + (i : Int) + 1 := by omega
        refine s_ifD w6 (dt_or (dt_of fun H w => by walk_at "et") (dt_and (dt_of fun H w => by walk_at "et") (dt_eqN rfl (by decide) (by decide)))) (fun H7 w7 => ?_) (fun H7 w7 => ?_)
        · refine s_app w7 rfl (d := Pt.pairD ((k : Int), (k : Int) + 1 + i)) (ev_tup (ed_cons (ev_var w7 rfl) (ed_cons (ev_var w7 rfl) ed_nil))) (by rw [List.length_map]; omega) fun H8 w8 => ?_
          refine ⟨.d (.int ((k : Int) + 1 + i)), ps ++ [((k : Int), (k : Int) + 1 + i)], ?_, ?_, by simp; omega⟩
          · rw [List.map_append]
            exact w8
          · rw [e1]
            exact hu.snoc (by omega) (by omega) (by omega)
        · exact s_next ⟨_, ps, w7, by rw [e1]; exact hu.mono (.inl (.inr ⟨rfl, by show (k : Int) + 1 + i < (k : Int) + 1 + i + 1; omega⟩)), by omega⟩
      · rintro σ H' ⟨c5, ps, w5, hu, hl⟩
        exact ⟨_, _, ps, w5, hu.mono (.inl (.inl (by show (k : Int) < ((k + 1 : Nat) : Int); omega))), by omega⟩
    · rintro σ H' ⟨c4, c5, ps, w3, hu, hl⟩
      exact s_retDr (i := 0) w3 rfl q (ev_tupleL (ev_var w3 rfl)) ⟨n, ps, rfl, ⟨hu.1, hu.2.1, by omega⟩, rfl⟩
/-! ### rows -/
abbrev A_law_row (as : List Ag) : Prop := ∃ n m : Int, as = [.c (.d (.int n)), .c (.d (.int m))] ∧ 1 ≤ n ∧ n ≤ 6 ∧ 0 ≤ m ∧ m ≤ 20
abbrev R_law_row (as : List Ag) (d : PyData) : Prop := ∃ (n m : Int) (l : List Int), as = [.c (.d (.int n)), .c (.d (.int m))] ∧ (l.length : Int) ≤ m ∧ (∀ x ∈ l, 0 ≤ x ∧ x < n) ∧ d = row l
theorem ok__law_row (E : Nv K mg) : FnOk P w K mg base CX0 8 E.a__law_row E.d__law_row ["_law_h", "_law_letters", "_law_most"] (spDr K E.C_Trade A_law_row R_law_row) := by
  refine E.F__law_row.ok sc__law_row (fun vs H Q _ h => ?_) (fun cdv A outer s H vs Q _ hr h => ?_)
  · obtain ⟨p, c, ws, as, rfl, _, ha, ⟨_, _, rfl, _⟩, _⟩ := h
    exact congrArg (· + 1) ha.length
  · obtain ⟨p, c, ws, as, rfl, hs, ha, ⟨n, m, rfl, n1, n6, m0, m20⟩, q⟩ := h
    obtain ⟨v1, v2, rfl, a1, a2⟩ := ha.two
    obtain rfl := Td.int_of a1
    obtain rfl := Td.int_of a2
    refine ⟨_, (pss_one (ps_ret (pe_callTy (call_tupleK K) (by rfl) E.n_tuple (by decide +kernel) (pa_cons (pe_lc (own := [("_law_k", 3)]) (g := gName 3) (by rfl) sc__law_row.nd (pi_range1 (by rfl) E.n_range (pa_cons (pe_call (ok__law_next E) (hr.mono (by first | decide | omega)) (by rfl) E.m__law_next E.F__law_next.kp E.b__law_next .nil pass0 (pa_cons (pv 0) (pa_cons (pe_op (op_addK K) (pv 2) pe_int) pa_nil))) pa_nil)) (blkOk_by (own := [("_law_k", 3)]) (N := N__law_row) (sc := defScope s__law_row) (by decide +kernel)) (fun _ _ _ _ _ => (pg_name (i := 3) sc__law_row.nd rfl (Or.inl rfl))) (fun _ _ _ _ _ => pts_nil) (fun _ _ _ _ _ => (pe_call (ok__law_next E) (hr.mono (by first | decide | omega)) (by rfl) E.m__law_next E.F__law_next.kp E.b__law_next .nil pass0 (pa_cons (pv 0) (pa_cons (pv 1) pa_nil))))) pa_nil)))), ?_⟩
    have w : Wd K E.C_Trade [p, c] [] H H [some (.ref p), some (.int n), some (.int m), none] [.h p c, .d (.int n), .d (.int m), .u] := Wd.startH (N := N__law_row) (vs := [.int n, .int m]) (cs := [.d (.int n), .d (.int m)]) ⟨hs, a1, a2, True.intro⟩ rfl (Nat.le_of_ble_eq_true rfl)
    refine dr_next w (b := m + 1) rfl (ev_addI (ev_var w rfl) ev_int) (by omega) (by omega) fun r H1 r0 r1 w1 => ?_
    refine ⟨r, rfl, by omega, by omega, fun Dl hD => ?_⟩
    have wg : Wd K E.C_Trade [p, c] [] H H1 [some (.ref p), none] [.h p c, .u] := w1.onlyH (i := 0) rfl
    have wg1 : Wd K E.C_Trade [p, c] [] H (L2.upd H1 Dl (.lst [])) [some (.ref p), some (.ref Dl)] [.h p c, .l Dl []] := wg.setN 1 (same_new hD) hD ⟨rfl, [], upd_same, .nil⟩
    refine lc_range (lo := 0) (n := r.toNat) (fun k H' => ∃ l : List Int, Wd K E.C_Trade [p, c] [] H H' [some (.ref p), some (.ref Dl)] [.h p c, .l Dl (iL l)] ∧ l.length = k ∧ ∀ x ∈ l, 0 ≤ x ∧ x < n) ⟨[], wg1, rfl, fun x m => by simp at m⟩ ?_ ?_
    · rintro k H' hk ⟨l, w2, hl, hx⟩
      show wipe ((wipe _ [3]).set 3 (some (.int (0 + (k : Int))))) [3] = wipe _ [3] ∧ _
      refine ⟨wipe1 _ 3 _, ?_⟩
      obtain ⟨vp, ep, ap⟩ := w2.get (i := 0) rfl
      obtain ⟨rfl, ap'⟩ := id ap
      refine ⟨.ref p, rfl, .int n, rfl, p, c, n, rfl, ap, n1, by omega, fun x H3 x0 x1 f3 a3 => ?_⟩
      have w3 := w2.drawn (i := 0) rfl f3 a3
      obtain ⟨vd, ed, ad⟩ := w3.get (i := 1) rfl
      obtain ⟨_, xs, hxs, tx⟩ := ad
      refine ⟨xs, hxs, ?_, l ++ [x], ?_, by simp [hl], fun y my => ?_⟩
      · have := tx.length
        rw [iL_len] at this
        exact Nat.lt_of_lt_of_le (show xs.length < 1000 by omega) (by decide)
      · rw [iL_app]
        exact w3.chg (i := 1) rfl (tx.append (.cons (.int x) .nil))
      · rcases List.mem_append.mp my with my | my
        · exact hx y my
        · rw [List.mem_singleton.mp my]; exact ⟨x0, x1⟩
    · rintro H' ⟨l, w2, hl, hx⟩
      obtain ⟨vd, ed, ad⟩ := w2.get (i := 1) rfl
      obtain ⟨_, xs, hxs, tx⟩ := ad
      refine ⟨Dl, xs, rfl, .inl ⟨SqL.of hxs, fun T o hT ho => ?_⟩⟩
      have w3 := w2.mono (same_new (o := .frz o (.tup xs)) hT)
      obtain ⟨vp, ep, ap⟩ := w3.get (i := 0) rfl
      obtain ⟨rfl, ap'⟩ := id ap
      exact q _ (row l) _ ⟨n, m, l, rfl, by omega, hx, rfl⟩ w3.fr ap (new_t (C := E.C_Trade) hT ho tx)
/-! ### shaken -/
abbrev A_law_shaken (as : List Ag) : Prop := ∃ (ps : List (Int × Int)) (l : List Int) (m : Int), as = [.c (.d (pairsD ps)), .c (.d (row l)), .c (.d (.int m))] ∧ l.length ≤ 20 ∧ 0 ≤ m ∧ m ≤ 100 ∧ ∃ n, PairsOk n ps
abbrev R_law_shaken (as : List Ag) (d : PyData) : Prop := ∃ l' : List Int, d = row l' ∧ ∀ (ps : List (Int × Int)) (l : List Int) (m : Int), as = [.c (.d (pairsD ps)), .c (.d (row l)), .c (.d (.int m))] → l'.Perm l ∧ ∃ ks, Walks ps l ks l'
theorem walks_snoc {ps : List (Int × Int)} {l ks m : List Int} (h : Walks ps l ks m) {k : Nat} (hk : okAt ps m k) : ∃ js, Walks ps l js (swapAt m k) := by
  induction h with
  | nil => exact ⟨_, .cons hk .nil⟩
  | cons h1 _ ih =>
    obtain ⟨js, w⟩ := ih hk
    exact ⟨_, .cons h1 w⟩
theorem row_inj {l m : List Int} (h : row l = row m) : l = m := by
  have t := eqv_row l m
  rw [← h, eqv_row, decide_eq_true (rfl : l = l)] at t
  exact of_decide_eq_true t.symm
theorem pairsD_inj {ps qs : List (Int × Int)} (h : pairsD ps = pairsD qs) : ps = qs := by
  have t := eqv_pairs ps qs
  rw [← h, eqv_pairs, decide_eq_true (rfl : ps = ps)] at t
  exact of_decide_eq_true t.symm
theorem swapAt_perm {l : List Int} {k : Nat} (h : k + 1 < l.length) : (swapAt l k).Perm l := by
  have e : l = l.take k ++ (l[k] :: l[k + 1] :: l.drop (k + 2)) := by
    rw [← List.drop_eq_getElem_cons h, ← List.drop_eq_getElem_cons (by omega), List.take_append_drop]
  have e1 : l.getD (k + 1) 0 = l[k + 1] := by rw [List.getD_eq_getElem?_getD, List.getElem?_eq_getElem h]; rfl
  have e2 : l.getD k 0 = l[k] := by rw [List.getD_eq_getElem?_getD, List.getElem?_eq_getElem (by omega)]; rfl
  unfold swapAt
  rw [e1, e2, List.append_assoc]
  refine List.Perm.trans ?_ (List.Perm.of_eq e.symm)
  exact List.Perm.append_left _ (List.Perm.swap _ _ _)
end
end K1
set_option maxRecDepth 10000000
/-! rows, walks, the least number of changes -/
namespace K1
open Pt
/-- where the first x stands in r, summed up while each is taken out -/
def lc : List Int → List Int → Nat
  | _, [] => 0
  | r, x :: ms => r.idxOf x + lc (r.erase x) ms
theorem leadGo_len : ∀ (ms r : List Int) (t : Nat), (leadGo t r ms).length = lc r ms
  | [], r, t => by simp [leadGo, lc]
  | x :: ms, r, t => by
    unfold leadGo lc
    rw [List.length_append, List.length_map, List.length_range, leadGo_len ms]
theorem lc_self : ∀ l : List Int, lc l l = 0
  | [] => rfl
  | x :: l => by
    unfold lc
    rw [List.idxOf_cons_self, List.erase_cons_head, lc_self l]
theorem idx_ne {x y : Int} (l : List Int) (h : y ≠ x) : (y :: l).idxOf x = l.idxOf x + 1 := by
  rw [List.idxOf_cons]
  have z : (y == x) = false := by simpa using h
  rw [z]
  rfl
theorem idx_app (u v : List Int) (x : Int) : (u ++ v).idxOf x = if x ∈ u then u.idxOf x else v.idxOf x + u.length := List.idxOf_append
theorem erase_app_r {u v : List Int} {x : Int} (h : x ∉ u) : (u ++ v).erase x = u ++ v.erase x := List.erase_append_right _ h
theorem erase_app_l {u v : List Int} {x : Int} (h : x ∈ u) : (u ++ v).erase x = u.erase x ++ v := List.erase_append_left _ h
theorem lc_swap : ∀ (ms u v : List Int) (a b : Int), a ≠ b → lc (u ++ a :: b :: v) ms ≤ lc (u ++ b :: a :: v) ms + 1
  | [], u, v, a, b, h => by simp [lc]
  | x :: ms, u, v, a, b, h => by
    unfold lc
    rw [idx_app, idx_app]
    by_cases hu : x ∈ u
    · rw [if_pos hu, if_pos hu, erase_app_l hu, erase_app_l hu]
      have := lc_swap ms (u.erase x) v a b h
      omega
    · rw [if_neg hu, if_neg hu, erase_app_r hu, erase_app_r hu]
      by_cases ha : x = a
      · subst ha
        rw [List.idxOf_cons_self, List.erase_cons_head, idx_ne _ (Ne.symm h), List.erase_cons_tail (by simpa using Ne.symm h), List.erase_cons_head]
        omega
      · by_cases hb : x = b
        · subst hb
          rw [List.idxOf_cons_self, List.erase_cons_head, idx_ne _ h, List.idxOf_cons_self, List.erase_cons_tail (by simpa using h), List.erase_cons_head]
          omega
        · rw [idx_ne _ (Ne.symm ha), idx_ne _ (Ne.symm hb), idx_ne _ (Ne.symm hb), idx_ne _ (Ne.symm ha),
            List.erase_cons_tail (by simpa using Ne.symm ha), List.erase_cons_tail (by simpa using Ne.symm hb), List.erase_cons_tail (by simpa using Ne.symm hb), List.erase_cons_tail (by simpa using Ne.symm ha)]
          have := lc_swap ms u (v.erase x) a b h
          omega
/-- what a swap does, by parts -/
theorem okAt_parts {ps : List (Int × Int)} {l : List Int} {k : Nat} (h : okAt ps l k) : ∃ u v a b, l = u ++ a :: b :: v ∧ swapAt l k = u ++ b :: a :: v ∧ u.length = k ∧ may ps a b = true := by
  have hk := okAt_lt h
  obtain ⟨a, b, ha, hb, hm⟩ := h
  have ea : l[k] = a := by rw [List.getElem?_eq_getElem (by omega)] at ha; exact Option.some.inj ha
  have eb : l[k + 1] = b := by rw [List.getElem?_eq_getElem hk] at hb; exact Option.some.inj hb
  refine ⟨l.take k, l.drop (k + 2), a, b, ?_, ?_, by rw [List.length_take]; omega, hm⟩
  · rw [← ea, ← eb, ← List.drop_eq_getElem_cons hk, ← List.drop_eq_getElem_cons (by omega), List.take_append_drop]
  · unfold swapAt
    rw [List.getD_eq_getElem?_getD, hb, List.getD_eq_getElem?_getD, ha, List.append_assoc]
    rfl
theorem okAt_of {ps : List (Int × Int)} {u v : List Int} {a b : Int} (h : may ps a b = true) : okAt ps (u ++ a :: b :: v) u.length ∧ swapAt (u ++ a :: b :: v) u.length = u ++ b :: a :: v := by
  have ha : (u ++ a :: b :: v)[u.length]? = some a := by rw [List.getElem?_append_right (Nat.le_refl _), Nat.sub_self]; rfl
  have hb : (u ++ a :: b :: v)[u.length + 1]? = some b := by rw [List.getElem?_append_right (by omega), show u.length + 1 - u.length = 1 by omega]; rfl
  refine ⟨⟨a, b, ha, hb, h⟩, ?_⟩
  unfold swapAt
  rw [List.getD_eq_getElem?_getD, hb, List.getD_eq_getElem?_getD, ha, List.take_left, List.append_assoc]
  congr 1
  have e : (u ++ a :: b :: v).drop (u.length + 2) = v := by
    rw [show u ++ a :: b :: v = (u ++ [a, b]) ++ v by simp, List.drop_append_of_le_length (by simp)]
    simp
  rw [e]
  rfl
theorem may_ne {n : Int} {ps : List (Int × Int)} (h : PairsOk n ps) {a b : Int} (m : may ps a b = true) : a ≠ b := fun e => by
  subst e
  have := (h.1 _ (of_decide_eq_true m)).2.1
  simp only at this
  omega
theorem may_comm (ps : List (Int × Int)) (a b : Int) : may ps a b = may ps b a := by
  unfold may
  rw [Int.min_comm, Int.max_comm]
theorem Walks.le {n : Int} {ps : List (Int × Int)} (hp : PairsOk n ps) {l ks m : List Int} (h : Walks ps l ks m) : lc l m ≤ ks.length := by
  induction h with
  | nil => rw [lc_self]; exact Nat.zero_le _
  | @cons l k ks m hk _ ih =>
    obtain ⟨u, v, a, b, e1, e2, _, hm⟩ := okAt_parts hk
    rw [e2] at ih
    have := lc_swap m u v a b (may_ne hp hm)
    rw [← e1] at this
    rw [List.length_cons]
    omega
theorem Walks.app {ps : List (Int × Int)} {l ks m : List Int} (h : Walks ps l ks m) : ∀ {js r : List Int}, Walks ps m js r → Walks ps l (ks ++ js) r := by
  induction h with
  | nil => intro js r g; exact g
  | cons hk _ ih => intro js r g; exact .cons hk (ih g)
theorem Walks.perm {ps : List (Int × Int)} {l ks m : List Int} (h : Walks ps l ks m) : l.Perm m := by
  induction h with
  | nil => exact .refl _
  | cons hk _ ih => exact (swapAt_perm (okAt_lt hk)).symm.trans ih
theorem only_app (u v : List Int) (a b : Int) : onlyL (u ++ v) a b = onlyL u a b ++ onlyL v a b := List.filter_append ..
theorem only_in {x a b : Int} (h : x = a ∨ x = b) (v : List Int) : onlyL (x :: v) a b = x :: onlyL v a b := List.filter_cons_of_pos (decide_eq_true h)
theorem only_out {x a b : Int} (h : ¬ (x = a ∨ x = b)) (v : List Int) : onlyL (x :: v) a b = onlyL v a b := List.filter_cons_of_neg (by simpa using h)
theorem Walks.only {n : Int} {ps : List (Int × Int)} (hp : PairsOk n ps) {l ks m : List Int} (h : Walks ps l ks m) {a b : Int} (hm : may ps a b = false) : onlyL l a b = onlyL m a b := by
  induction h with
  | nil => rfl
  | @cons l k ks m hk _ ih =>
    rw [← ih]
    obtain ⟨u, v, x, y, e1, e2, _, hxy⟩ := okAt_parts hk
    rw [e1, ← e1, e2, e1, only_app, only_app]
    congr 1
    have ne := may_ne hp hxy
    by_cases hx : x = a ∨ x = b
    · by_cases hy : y = a ∨ y = b
      · exfalso
        have : may ps a b = true := by
          rcases hx with rfl | rfl <;> rcases hy with rfl | rfl
          · exact absurd rfl ne
          · exact hxy
          · rw [may_comm]; exact hxy
          · exact absurd rfl ne
        rw [hm] at this
        cases this
      · rw [only_in hx, only_out hy, only_out hy, only_in hx]
    · rw [only_out hx]
      by_cases hy : y = a ∨ y = b
      · rw [only_in hy, only_in hy, only_out hx]
      · rw [only_out hy, only_out hy, only_out hx]
/-- the free pairs stand alike -/
def Free (ps : List (Int × Int)) (l m : List Int) : Prop := ∀ a b, a ≠ b → may ps a b = false → onlyL l a b = onlyL m a b
theorem split_at {r : List Int} {x : Int} (h : x ∈ r) : ∃ u v, r = u ++ x :: v ∧ x ∉ u ∧ r.idxOf x = u.length ∧ r.erase x = u ++ v := by
  induction r with
  | nil => cases h
  | cons y r ih =>
    by_cases e : y = x
    · subst e
      exact ⟨[], r, rfl, by simp, by simp, by simp⟩
    · obtain ⟨u, v, h1, h2, h3, h4⟩ := ih (by
        rcases List.mem_cons.mp h with z | z
        · exact absurd z.symm e
        · exact z)
      refine ⟨y :: u, v, by rw [h1]; rfl, by simp [h2, Ne.symm e], by rw [idx_ne _ e, h3, List.length_cons], by rw [List.erase_cons_tail (by simpa using e), h4]; rfl⟩
theorem move {ps : List (Int × Int)} {x : Int} {pre : List Int} : ∀ (u v : List Int), (∀ y ∈ u, may ps y x = true) → Walks ps (pre ++ (u ++ x :: v)) ((List.range u.length).map fun i : Nat => ((pre.length + u.length : Nat) : Int) - 1 - i) (pre ++ (x :: (u ++ v))) := by
  intro u
  have key : ∀ (n : Nat) (u v : List Int), u.length = n → (∀ y ∈ u, may ps y x = true) → Walks ps (pre ++ (u ++ x :: v)) ((List.range u.length).map fun i : Nat => ((pre.length + u.length : Nat) : Int) - 1 - i) (pre ++ (x :: (u ++ v))) := by
    intro n
    induction n with
    | zero =>
      intro u v hl _
      have e : u = [] := List.length_eq_zero_iff.mp hl
      subst e
      exact .nil
    | succ n ih =>
      intro u v hl hm
      obtain ⟨u', y, rfl⟩ : ∃ u' y, u = u' ++ [y] := by
        rcases List.eq_nil_or_concat u with rfl | ⟨u', y, h⟩
        · cases hl
        · exact ⟨u', y, by rw [h]; simp⟩
      have hl' : u'.length = n := by simpa using hl
      have e0 : pre ++ ((u' ++ [y]) ++ x :: v) = (pre ++ u') ++ y :: x :: v := by simp
      obtain ⟨h1, h2⟩ := okAt_of (ps := ps) (u := pre ++ u') (v := v) (a := y) (b := x) (hm y (by simp))
      have w := ih u' (y :: v) hl' (fun z m => hm z (by simp [m]))
      have e1 : pre ++ (u' ++ x :: y :: v) = (pre ++ u') ++ x :: y :: v := by simp
      have e2 : pre ++ (x :: (u' ++ y :: v)) = pre ++ (x :: ((u' ++ [y]) ++ v)) := by simp
      rw [e1, ← h2, e2] at w
      rw [e0]
      have c := Walks.cons h1 w
      have e3 : ((pre ++ u').length : Int) :: ((List.range u'.length).map fun i : Nat => ((pre.length + u'.length : Nat) : Int) - 1 - i) = (List.range (u' ++ [y]).length).map fun i : Nat => ((pre.length + (u' ++ [y]).length : Nat) : Int) - 1 - i := by
        rw [List.length_append (as := u'), List.length_append (as := pre)]
        show _ = List.map _ (List.range (u'.length + 1))
        rw [List.range_succ_eq_map, List.map_cons, List.map_map]
        congr 1
        · simp
          omega
        · refine List.map_congr_left fun i _ => ?_
          show _ = (((pre.length + (u'.length + 1) : Nat) : Int)) - 1 - ((i + 1 : Nat) : Int)
          omega
      rw [e3] at c
      exact c
  exact fun v h => key u.length u v rfl h
theorem lead_walks {ps : List (Int × Int)} : ∀ (ms r pre : List Int), r.Perm ms → Free ps r ms → Walks ps (pre ++ r) (leadGo pre.length r ms) (pre ++ ms)
  | [], r, pre, hp, _ => by
    have e : r = [] := List.Perm.eq_nil hp
    subst e
    exact .nil
  | x :: ms, r, pre, hp, hf => by
    obtain ⟨u, v, rfl, hx, hi, he⟩ := split_at (hp.mem_iff.mpr List.mem_cons_self)
    have hm : ∀ y ∈ u, may ps y x = true := fun y my => by
      cases q : may ps y x with
      | true => rfl
      | false =>
        exfalso
        have ne : y ≠ x := fun z => hx (z ▸ my)
        have e := hf y x ne q
        rw [only_app, only_in (.inr rfl), only_in (.inr rfl)] at e
        have hy : y ∈ onlyL u y x := List.mem_filter.mpr ⟨my, by simp⟩
        cases z : onlyL u y x with
        | nil => rw [z] at hy; cases hy
        | cons w t =>
          rw [z] at e
          have e1 : w = x := by simpa using (List.cons.inj e).1
          have : w ∈ u := (List.mem_filter.mp (show w ∈ onlyL u y x by rw [z]; exact List.mem_cons_self)).1
          exact hx (e1 ▸ this)
    have hp' : (u ++ v).Perm ms := by
      have := hp.erase x
      rw [he, List.erase_cons_head] at this
      exact this
    have hf' : Free ps (u ++ v) ms := fun a b ne q => by
      have e := hf a b ne q
      rw [only_app] at e
      rw [only_app]
      by_cases hxab : x = a ∨ x = b
      · rw [only_in hxab, only_in hxab] at e
        cases z : onlyL u a b with
        | nil => rw [z] at e; simpa using e
        | cons w t =>
          rw [z] at e
          have e1 : w = x := by simpa using (List.cons.inj e).1
          have : w ∈ u := (List.mem_filter.mp (show w ∈ onlyL u a b by rw [z]; exact List.mem_cons_self)).1
          exact absurd (e1 ▸ this) hx
      · rw [only_out hxab, only_out hxab] at e
        exact e
    have w1 := move (pre := pre) u v hm
    have w2 := lead_walks ms (u ++ v) (pre ++ [x]) hp' hf'
    have e1 : (pre ++ [x]) ++ (u ++ v) = pre ++ (x :: (u ++ v)) := by simp
    have e2 : (pre ++ [x]) ++ ms = pre ++ (x :: ms) := by simp
    have e3 : (pre ++ [x]).length = pre.length + 1 := by simp
    rw [e1, e2, e3] at w2
    have c := w1.app w2
    unfold leadGo
    rw [hi, he]
    exact c
end K1
set_option maxRecDepth 10000000
/-! no bar: a walk; flips; the least walk -/
namespace K1
open Pt
def rowIn (n : Int) (l : List Int) : Prop := ∀ x ∈ l, 0 ≤ x ∧ x < n
theorem bar_parts {n : Int} {ps : List (Int × Int)} {l m : List Int} (h : isN (findBar n ps l m) = true) : (∀ a : Nat, (a : Int) < n → l.count (a : Int) = m.count (a : Int)) ∧ ∀ a b : Nat, (a : Int) < b → (b : Int) < n → may ps a b = false → fuO (onlyL l a b) (onlyL m a b) = none := by
  unfold findBar at h
  cases e1 : barL n l m with
  | some d =>
    rw [e1] at h
    obtain ⟨k, _, _, hk⟩ := firstOf_of_some e1
    split at hk
    · cases hk
    · have := Option.some.inj hk
      subst this
      cases h
  | none =>
    rw [e1, Option.none_or] at h
    cases e2 : barP n ps l m with
    | some d =>
      rw [e2] at h
      obtain ⟨k, _, _, hk⟩ := firstOf_of_some e2
      obtain ⟨i, _, _, hi⟩ := firstOf_of_some hk
      unfold barIn at hi
      split at hi
      · cases hi
      · cases e3 : fuO (onlyL l k ((k : Int) + 1 + i)) (onlyL m k ((k : Int) + 1 + i)) with
        | none => rw [e3] at hi; cases hi
        | some j =>
          rw [e3] at hi
          have := Option.some.inj hi
          subst this
          cases h
    | none =>
      refine ⟨fun a ha => ?_, fun a b hab hb hm => ?_⟩
      · have := firstOf_of_none e1 a (by omega)
        split at this
        · assumption
        · cases this
      · have z := firstOf_of_none (firstOf_of_none e2 a (by omega)) (b - (a + 1)) (by omega)
        have e : (a : Int) + 1 + ((b - (a + 1) : Nat) : Int) = (b : Int) := by omega
        rw [e] at z
        unfold barIn at z
        rw [if_neg (by rw [hm]; exact Bool.false_ne_true)] at z
        cases q : fuO (onlyL l a b) (onlyL m a b) with
        | none => rfl
        | some j => rw [q] at z; cases z
theorem perm_of_noBar {n : Int} {ps : List (Int × Int)} {l m : List Int} (h : isN (findBar n ps l m) = true) (hl : rowIn n l) (hm : rowIn n m) : l.Perm m := by
  have hc := (bar_parts h).1
  refine List.perm_iff_count.mpr fun a => ?_
  by_cases ha : 0 ≤ a ∧ a < n
  · have := hc a.toNat (by omega)
    rw [Int.toNat_of_nonneg ha.1] at this
    exact this
  · rw [List.count_eq_zero_of_not_mem (fun z => ha (hl a z)), List.count_eq_zero_of_not_mem (fun z => ha (hm a z))]
theorem only_comm (l : List Int) (a b : Int) : onlyL l a b = onlyL l b a := by
  unfold onlyL
  congr 1
  funext x
  simp [Or.comm]
theorem eq_of_fuO {l m : List Int} (h : fuO l m = none) (e : l.length = m.length) : l = m := by
  refine List.ext_getElem? fun x => ?_
  by_cases hx : x < l.length
  · have := firstOf_of_none h x hx
    split at this
    · assumption
    · cases this
  · rw [List.getElem?_eq_none (by omega), List.getElem?_eq_none (by omega)]
theorem only_all {l m : List Int} (hp : l.Perm m) {a b c : Int} (h1 : ∀ x ∈ onlyL l a b, x = c) (h2 : ∀ x ∈ onlyL m a b, x = c) : onlyL l a b = onlyL m a b := by
  have e : (onlyL l a b).length = (onlyL m a b).length := (hp.filter _).length_eq
  rw [List.eq_replicate_iff.mpr ⟨e, h1⟩, ← List.eq_replicate_iff.mpr ⟨rfl, h2⟩]
theorem free_of_noBar {n : Int} {ps : List (Int × Int)} {l m : List Int} (h : isN (findBar n ps l m) = true) (hl : rowIn n l) (hm : rowIn n m) : Free ps l m := by
  have hp := perm_of_noBar h hl hm
  have key : ∀ a b : Int, a < b → may ps a b = false → onlyL l a b = onlyL m a b := fun a b ab q => by
    by_cases ha : 0 ≤ a
    · by_cases hb : b < n
      · have z := (bar_parts h).2 a.toNat b.toNat (by omega) (by omega)
        rw [Int.toNat_of_nonneg ha, Int.toNat_of_nonneg (by omega)] at z
        exact eq_of_fuO (z q) (hp.filter _).length_eq
      · refine only_all hp (c := a) (fun x m => ?_) (fun x m => ?_)
        · obtain ⟨m1, m2⟩ := List.mem_filter.mp m
          have := hl x m1
          have := of_decide_eq_true m2
          omega
        · obtain ⟨m1, m2⟩ := List.mem_filter.mp m
          have := hm x m1
          have := of_decide_eq_true m2
          omega
    · refine only_all hp (c := b) (fun x m => ?_) (fun x m => ?_)
      · obtain ⟨m1, m2⟩ := List.mem_filter.mp m
        have := hl x m1
        have := of_decide_eq_true m2
        omega
      · obtain ⟨m1, m2⟩ := List.mem_filter.mp m
        have := hm x m1
        have := of_decide_eq_true m2
        omega
  intro a b ne q
  rcases Int.lt_trichotomy a b with z | z | z
  · exact key a b z q
  · exact absurd z ne
  · rw [only_comm l, only_comm m]
    exact key b a z (by rw [may_comm]; exact q)
theorem noBar_of_walk {n : Int} {ps : List (Int × Int)} (hp : PairsOk n ps) {l ks m : List Int} (h : Walks ps l ks m) : isN (findBar n ps l m) = true := by
  have e1 : barL n l m = none := firstOf_none fun a _ => if_pos (h.perm.count_eq _)
  have e2 : barP n ps l m = none := firstOf_none fun a _ => firstOf_none fun i _ => by
    unfold barIn
    cases q : may ps a ((a : Int) + 1 + i) with
    | true => rfl
    | false =>
      rw [if_neg Bool.false_ne_true, h.only hp q, show fuO (onlyL m a ((a : Int) + 1 + i)) (onlyL m a ((a : Int) + 1 + i)) = none from firstOf_none fun j _ => if_pos rfl]
      rfl
  unfold findBar
  rw [e1, e2]
  rfl
theorem plan_walks {n : Int} {ps : List (Int × Int)} {l m : List Int} (h : isN (findBar n ps l m) = true) (hl : rowIn n l) (hm : rowIn n m) : Walks ps l (leadL l m) m :=
  lead_walks m l [] (perm_of_noBar h hl hm) (free_of_noBar h hl hm)
theorem plan_len (l m : List Int) : (leadL l m).length = lc l m := leadGo_len m l 0
/-! ### flips -/
theorem posL_ne {x y : Int} (m : List Int) (h : x ≠ y) : posL (x :: m) y = (posL m y).map (· + 1) := by
  unfold posL
  rw [List.length_cons, List.range_succ_eq_map, List.filter_cons_of_neg (by simpa using h), List.filter_map]
  rfl
theorem posL_eq (x : Int) (m : List Int) : posL (x :: m) x = 0 :: (posL m x).map (· + 1) := by
  unfold posL
  rw [List.length_cons, List.range_succ_eq_map, List.filter_cons_of_pos (by simp), List.filter_map]
  rfl
def place (m : List Int) (y : Int) (c : Nat) : Int := (((posL m y).getD c 0 : Nat) : Int)
theorem place_ne {x y : Int} {m : List Int} {c : Nat} (h : x ≠ y) (hc : c < m.count y) : place (x :: m) y c = place m y c + 1 := by
  unfold place
  rw [← posL_length] at hc
  rw [posL_ne m h, List.getD_eq_getElem?_getD, List.getElem?_map, List.getD_eq_getElem?_getD, List.getElem?_eq_getElem hc]
  rfl
theorem place_eq {x : Int} {m : List Int} {c : Nat} (hc : c < m.count x) : place (x :: m) x (c + 1) = place m x c + 1 := by
  unfold place
  rw [← posL_length] at hc
  rw [posL_eq, List.getD_eq_getElem?_getD, List.getElem?_cons_succ, List.getElem?_map, List.getD_eq_getElem?_getD, List.getElem?_eq_getElem hc]
  rfl
theorem place_zero (x : Int) (m : List Int) : place (x :: m) x 0 = 0 := by
  unfold place
  rw [posL_eq]
  rfl
theorem places_get {l m : List Int} {k : Nat} (h : k < l.length) : (placesL l m)[k]? = some (place m l[k] ((l.take k).count l[k])) := by
  unfold placesL
  rw [List.getElem?_map, List.getElem?_range h]
  have e1 : l.getD k 0 = l[k] := by rw [List.getD_eq_getElem?_getD, List.getElem?_eq_getElem h]; rfl
  simp only [Option.map_some, e1]
  rfl
theorem places_len (l m : List Int) : (placesL l m).length = l.length := by unfold placesL; rw [List.length_map, List.length_range]
theorem places_pos (l m : List Int) : ∀ x ∈ placesL l m, 0 ≤ x := fun x h => by
  obtain ⟨k, _, rfl⟩ := List.mem_map.mp h
  omega
theorem places_split {u v ms : List Int} {x : Int} (hx : x ∉ u) (hp : (u ++ v).Perm ms) :
    placesL (u ++ x :: v) (x :: ms) = ((placesL (u ++ v) ms).take u.length).map (· + 1) ++ 0 :: ((placesL (u ++ v) ms).drop u.length).map (· + 1) := by
  refine List.ext_getElem? fun k => ?_
  have lt : ((placesL (u ++ v) ms).take u.length).length = u.length := by rw [List.length_take, places_len, List.length_append]; omega
  rcases Nat.lt_trichotomy k u.length with z | z | z
  · have h1 : k < (u ++ x :: v).length := by rw [List.length_append]; omega
    have h2 : k < (u ++ v).length := by rw [List.length_append]; omega
    have c := count_take_lt h2
    rw [hp.count_eq] at c
    rw [places_get h1, List.getElem?_append_left (by rw [List.length_map, lt]; exact z), List.getElem?_map, List.getElem?_take_of_lt z, places_get h2]
    have g1 : (u ++ x :: v)[k] = u[k] := List.getElem_append_left z
    have g2 : (u ++ v)[k] = u[k] := List.getElem_append_left z
    have t1 : (u ++ x :: v).take k = u.take k := List.take_append_of_le_length (by omega)
    have t2 : (u ++ v).take k = u.take k := List.take_append_of_le_length (by omega)
    rw [g2, t2] at c
    rw [g1, g2, t1, t2]
    have ne : x ≠ u[k] := fun q => hx (q ▸ List.getElem_mem z)
    rw [place_ne ne c]
    rfl
  · subst z
    have h1 : u.length < (u ++ x :: v).length := by rw [List.length_append, List.length_cons]; omega
    rw [places_get h1, List.getElem?_append_right (by rw [List.length_map, lt]; omega), List.length_map, lt, Nat.sub_self]
    have g1 : (u ++ x :: v)[u.length] = x := by rw [List.getElem_append_right (Nat.le_refl _)]; simp
    rw [g1, List.take_left, List.count_eq_zero_of_not_mem hx, place_zero]
    rfl
  · obtain ⟨j, rfl⟩ : ∃ j, k = u.length + 1 + j := ⟨k - (u.length + 1), by omega⟩
    rw [List.getElem?_append_right (by rw [List.length_map, lt]; omega), List.length_map, lt, show u.length + 1 + j - u.length = j + 1 by omega, List.getElem?_cons_succ, List.getElem?_map, List.getElem?_drop]
    by_cases hj : j < v.length
    · have h1 : u.length + 1 + j < (u ++ x :: v).length := by rw [List.length_append, List.length_cons]; omega
      have h2 : u.length + j < (u ++ v).length := by rw [List.length_append]; omega
      have c := count_take_lt h2
      rw [hp.count_eq] at c
      rw [places_get h1, places_get h2]
      have g1 : (u ++ x :: v)[u.length + 1 + j] = v[j] := by
        rw [List.getElem_append_right (by omega)]
        simp only [show u.length + 1 + j - u.length = j + 1 by omega, List.getElem_cons_succ]
      have g2 : (u ++ v)[u.length + j] = v[j] := by
        rw [List.getElem_append_right (by omega)]
        simp only [show u.length + j - u.length = j by omega]
      have t1 : (u ++ x :: v).take (u.length + 1 + j) = u ++ x :: v.take j := by
        rw [show u.length + 1 + j = u.length + (j + 1) by omega, List.take_length_add_append, List.take_succ_cons]
      have t2 : (u ++ v).take (u.length + j) = u ++ v.take j := List.take_length_add_append _
      rw [g2, t2, List.count_append] at c
      rw [g1, g2, t1, t2, List.count_append, List.count_append]
      by_cases e : x = v[j]
      · rw [← e] at c ⊢
        rw [List.count_cons_self, ← Nat.add_assoc, place_eq c]
        rfl
      · rw [List.count_cons_of_ne e, place_ne e c]
        rfl
    · rw [List.getElem?_eq_none (by rw [places_len, List.length_append, List.length_cons]; omega), List.getElem?_eq_none (by rw [places_len, List.length_append]; omega)]
      rfl
theorem inv_map : ∀ l : List Int, inv (l.map (· + 1)) = inv l
  | [] => rfl
  | x :: l => by
    rw [List.map_cons, inv, inv, inv_map l, List.filter_map, List.length_map]
    congr 2
    refine List.filter_congr fun y _ => ?_
    show decide (y + 1 < x + 1) = decide (y < x)
    simp
theorem inv_split : ∀ A B : List Int, (∀ x ∈ A, 0 ≤ x) → (∀ x ∈ B, 0 ≤ x) → inv (A.map (· + 1) ++ 0 :: B.map (· + 1)) = A.length + inv (A ++ B)
  | [], B, _, hB => by
    rw [List.map_nil, List.nil_append, List.nil_append, inv, inv_map]
    have e : (B.map (· + 1)).filter (fun y => decide (y < 0)) = [] := List.filter_eq_nil_iff.mpr fun y hy => by
      obtain ⟨z, hz, rfl⟩ := List.mem_map.mp hy
      have := hB z hz
      simp
      omega
    rw [e]
  | z :: A, B, hA, hB => by
    have hz := hA z List.mem_cons_self
    have ih := inv_split A B (fun x m => hA x (List.mem_cons_of_mem _ m)) hB
    rw [List.map_cons, List.cons_append, inv, ih, List.cons_append, inv, List.length_cons, List.filter_append, List.length_append, List.filter_cons_of_pos (by simp; omega), List.length_cons]
    have f : ∀ L : List Int, ((L.map (· + 1)).filter fun y => decide (y < z + 1)).length = (L.filter fun y => decide (y < z)).length := fun L => by
      rw [List.filter_map, List.length_map]
      congr 1
      refine List.filter_congr fun y _ => ?_
      show decide (y + 1 < z + 1) = decide (y < z)
      simp
    rw [f, f, List.filter_append, List.length_append]
    omega
theorem inv_lc : ∀ (m l : List Int), l.Perm m → inv (placesL l m) = lc l m
  | [], l, h => by
    have e : l = [] := List.Perm.eq_nil h
    subst e
    rfl
  | x :: ms, l, h => by
    obtain ⟨u, v, rfl, hx, hi, he⟩ := split_at (h.mem_iff.mpr List.mem_cons_self)
    have hp' : (u ++ v).Perm ms := by
      have := h.erase x
      rw [he, List.erase_cons_head] at this
      exact this
    have ih := inv_lc ms (u ++ v) hp'
    unfold lc
    rw [hi, he, ← ih, places_split hx hp', inv_split _ _ (fun y m => places_pos _ _ y (List.mem_of_mem_take m)) (fun y m => places_pos _ _ y (List.mem_of_mem_drop m)), List.take_append_drop, List.length_take, places_len, List.length_append, Nat.min_eq_left (Nat.le_add_right _ _)]
/-! ### the least walk -/
def Dist (ps : List (Int × Int)) (l m : List Int) (t : Nat) : Prop := (∃ ks, Walks ps l ks m ∧ ks.length = t) ∧ ∀ ks, Walks ps l ks m → t ≤ ks.length
theorem Dist.uniq {ps : List (Int × Int)} {l m : List Int} {s t : Nat} (h : Dist ps l m s) (g : Dist ps l m t) : s = t := by
  obtain ⟨⟨ks, h1, h2⟩, h3⟩ := h
  obtain ⟨⟨js, g1, g2⟩, g3⟩ := g
  have := h3 js g1
  have := g3 ks h1
  omega
theorem dist_plan {n : Int} {ps : List (Int × Int)} (hp : PairsOk n ps) {l m : List Int} (h : isN (findBar n ps l m) = true) (hl : rowIn n l) (hm : rowIn n m) : Dist ps l m (lc l m) :=
  ⟨⟨_, plan_walks h hl hm, plan_len l m⟩, fun ks w => w.le hp⟩
theorem Dist.self (ps : List (Int × Int)) (l : List Int) : Dist ps l l 0 := ⟨⟨[], .nil, rfl⟩, fun _ _ => Nat.zero_le _⟩
theorem dist_some {ps : List (Int × Int)} {l m ks : List Int} (h : Walks ps l ks m) : ∃ t, Dist ps l m t ∧ t ≤ ks.length := by
  have key : ∀ n, ∀ ks, Walks ps l ks m → ks.length ≤ n → ∃ t, Dist ps l m t := by
    intro n
    induction n with
    | zero =>
      intro ks w hl
      exact ⟨0, ⟨ks, w, by omega⟩, fun _ _ => Nat.zero_le _⟩
    | succ n ih =>
      intro ks w hl
      by_cases q : ∃ js, Walks ps l js m ∧ js.length ≤ n
      · obtain ⟨js, w', hl'⟩ := q
        exact ih js w' hl'
      · have nl : ∀ js, Walks ps l js m → n + 1 ≤ js.length := fun js w' => by
          rcases Nat.lt_or_ge n js.length with z | z
          · exact z
          · exact absurd ⟨js, w', z⟩ q
        exact ⟨n + 1, ⟨ks, w, Nat.le_antisymm hl (nl ks w)⟩, nl⟩
  obtain ⟨t, d⟩ := key ks.length ks h (Nat.le_refl _)
  exact ⟨t, d, d.2 ks h⟩
theorem Walks.snoc {ps : List (Int × Int)} {l ks m : List Int} (h : Walks ps l ks m) {k : Nat} (hk : okAt ps m k) : Walks ps l (ks ++ [(k : Int)]) (swapAt m k) := h.app (.cons hk .nil)
theorem Walks.last {ps : List (Int × Int)} : ∀ {ks l m : List Int} {t : Nat}, Walks ps l ks m → ks.length = t + 1 → ∃ h js k, Walks ps l js h ∧ js.length = t ∧ okAt ps h k ∧ swapAt h k = m
  | [], _, _, _, _, e => by cases e
  | [x], l, m, t, w, e => by
    obtain ⟨k, rfl, hk, w⟩ := w.inv
    cases w
    exact ⟨l, [], k, .nil, Nat.succ.inj e, hk, rfl⟩
  | x :: y :: ks, l, m, t, w, e => by
    obtain ⟨k, rfl, hk, w⟩ := w.inv
    obtain ⟨t', rfl⟩ : ∃ t', t = t' + 1 := ⟨ks.length, by simpa using e.symm⟩
    obtain ⟨h, js, j, w1, e1, h1, h2⟩ := Walks.last (t := t') w (by simpa using e)
    exact ⟨h, (k : Int) :: js, j, .cons hk w1, by simp [e1], h1, h2⟩
theorem Dist.last {ps : List (Int × Int)} {l m : List Int} {t : Nat} (d : Dist ps l m (t + 1)) : ∃ h k, Dist ps l h t ∧ okAt ps h k ∧ swapAt h k = m := by
  obtain ⟨⟨ks, w, e⟩, hmin⟩ := d
  obtain ⟨h, js, k, w1, e1, h1, h2⟩ := w.last e
  refine ⟨h, k, ⟨⟨js, w1, e1⟩, fun is w2 => ?_⟩, h1, h2⟩
  have w3 := w2.snoc h1
  rw [h2] at w3
  have := hmin _ w3
  rw [List.length_append] at this
  simp at this
  exact this
/-- one change from where t changes lead -/
theorem Dist.next {ps : List (Int × Int)} {l h : List Int} {t k : Nat} (d : Dist ps l h t) (hk : okAt ps h k) (no : ∀ s, s ≤ t → ¬ Dist ps l (swapAt h k) s) : Dist ps l (swapAt h k) (t + 1) := by
  obtain ⟨⟨ks, w, e⟩, _⟩ := d
  have w1 := w.snoc hk
  refine ⟨⟨_, w1, by rw [List.length_append, e]; rfl⟩, fun js w2 => ?_⟩
  obtain ⟨s, d, hs⟩ := dist_some w2
  rcases Nat.lt_or_ge t s with z | z
  · omega
  · exact absurd d (no s z)
theorem Dist.all_none {ps : List (Int × Int)} {l : List Int} {t : Nat} (h : ∀ m, ¬ Dist ps l m t) : ∀ s m, t ≤ s → ¬ Dist ps l m s := by
  intro s
  induction s with
  | zero => intro m hs d; exact h m (by rw [show t = 0 by omega]; exact d)
  | succ s ih =>
    intro m hs d
    by_cases e : t = s + 1
    · exact h m (e ▸ d)
    · obtain ⟨h', k, d', _⟩ := d.last
      exact ih h' (by omega) d'
end K1
set_option maxRecDepth 10000000
namespace K1
open PySem PySem.Spec PyProof.Rows L2 Pt
local macro_rules
  | `(tactic| walk_at "sz") => `(tactic| first
    | omega
    | decide
    | (simp; omega)
    | (simp [iL, row, pairsD]; omega))
  | `(tactic| walk_at "ea") => `(tactic| first
    | (with_reducible exact ea_nil)
    | ((with_reducible apply ea_consL); (focus (walk_at "ev")); (focus (walk_at "ea")))
    | ((with_reducible apply ea_consS); (focus (walk_at "ev")); (focus (walk_at "ea")))
    | ((with_reducible apply ea_cons); (focus (walk_at "ev")); (focus (walk_at "ea")))
    | ((with_reducible apply ea_consN); (focus (walk_at "en")); (focus (walk_at "ea"))))
  | `(tactic| walk_at "ed") => `(tactic| first
    | (with_reducible exact ed_nil)
    | ((with_reducible apply ed_cons); (focus (walk_at "ev")); (focus (walk_at "ed"))))
  | `(tactic| walk_at "en") => `(tactic| first
    | ((with_reducible apply en_lst); (focus (walk_at "ed")); (focus (simp)))
    | ((with_reducible apply en_listT); (focus (walk_at "ev")))
    | ((with_reducible apply en_addL); (focus (walk_at "ev")); (focus (walk_at "en")); (focus (walk_at "sz")))
    | ((with_reducible apply en_addN); (focus (walk_at "en")); (focus (walk_at "en")); (focus (walk_at "sz")))
    | ((with_reducible apply en_slL); (focus (walk_at "ev")); (focus (walk_at "eo")); (focus (walk_at "eo"))))
  | `(tactic| walk_at "eo") => `(tactic| first
    | (with_reducible exact eo_none)
    | ((with_reducible apply eo_some); (focus (walk_at "ev"))))
  | `(tactic| walk_at "et") => `(tactic| first
    | (with_reducible exact et_yes)
    | ((with_reducible apply et_test); (focus (walk_at "ev")))
    | ((with_reducible apply et_B); (focus (walk_at "ev")))
    | ((with_reducible apply et_truB); (focus (walk_at "ev")))
    | ((with_reducible apply et_truT); (focus (walk_at "ev")))
    | ((with_reducible apply et_not); (focus (walk_at "et")))
    | ((with_reducible apply et_and); (focus (walk_at "et")); (focus (intro _; walk_at "et")))
    | ((with_reducible apply et_or); (focus (walk_at "et")); (focus (intro _; walk_at "et"))))
  | `(tactic| walk_at "var") => `(tactic| first
    | ((with_reducible apply ev_varD); (focus (assumption)); (focus (rfl)))
    | ((with_reducible apply ev_varL); (focus (assumption)); (focus (rfl)))
    | ((with_reducible apply ev_varS); (focus (assumption)); (focus (rfl)))
    | ((with_reducible apply ev_varT); (focus (assumption)); (focus (rfl)))
    | ((with_reducible apply ev_varH); (focus (assumption)); (focus (rfl)))
    | ((with_reducible apply ev_varZ); (focus (assumption)); (focus (rfl))))
  | `(tactic| walk_at "ev") => `(tactic| first
    | walk_at "var"
    | (with_reducible exact ev_int)
    | (with_reducible exact ev_bl)
    | (with_reducible exact ev_str)
    | (with_reducible exact ev_non)
    | ((with_reducible apply ev_letters); (focus (walk_at "ev")))
    | ((with_reducible apply ev_pairs); (focus (walk_at "ev")))
    | ((with_reducible apply ev_addI); (focus (walk_at "ev")); (focus (walk_at "ev")))
    | ((with_reducible apply ev_addT); (focus (walk_at "ev")); (focus (walk_at "ev")); (focus (walk_at "sz")))
    | ((with_reducible apply ev_i0); (focus (walk_at "ev")); (focus (walk_at "ev")); (focus (first | exact fun _ => .int _ | exact fun _ => .bl _)))
    | ((with_reducible apply ev_iC); (focus (walk_at "ev")); (focus (walk_at "ev")); (focus (first | assumption | walk_at "cond")); (focus (exact fun _ => .int _)))
    | ((with_reducible apply ev_chain); (focus (walk_at "ev")); (focus (walk_at "ev")); (focus (walk_at "ev")))
    | ((with_reducible apply ev_eqI); (focus (walk_at "ev")); (focus (walk_at "ev")))
    | ((with_reducible apply ev_neI); (focus (walk_at "ev")); (focus (walk_at "ev")))
    | ((with_reducible apply ev_eqR); (focus (walk_at "ev")); (focus (walk_at "ev")))
    | ((with_reducible apply ev_neR); (focus (walk_at "ev")); (focus (walk_at "ev")))
    | ((with_reducible apply ev_isN); (focus (walk_at "ev")))
    | ((with_reducible apply ev_notN); (focus (walk_at "ev")))
    | ((with_reducible apply ev_in2); (focus (walk_at "ev")); (focus (walk_at "ev")); (focus (walk_at "ev")))
    | ((with_reducible apply ev_inP); (focus (walk_at "ev")); (focus (walk_at "ev")))
    | ((with_reducible apply ev_tup); (focus (walk_at "ed")); (focus (simp)))
    | ((with_reducible apply ev_lenT); (focus (walk_at "ev")))
    | ((with_reducible apply ev_lenL); (focus (walk_at "ev")))
    | ((with_reducible apply ev_lenS); (focus (walk_at "ev")))
    | ((with_reducible apply ev_lenN); (focus (walk_at "en")))
    | ((with_reducible apply ev_max2); (focus (walk_at "ev")); (focus (walk_at "ev")))
    | ((with_reducible apply ev_min2); (focus (walk_at "ev")); (focus (walk_at "ev")))
    | ((with_reducible apply ev_int1); (focus (walk_at "ev")))
    | ((with_reducible apply ev_tupleL); (focus (walk_at "ev")))
    | ((with_reducible apply ev_tupleN); (focus (walk_at "en")))
    | ((with_reducible apply ev_countT); (focus (walk_at "ev")); (focus (walk_at "ev")))
    | ((with_reducible apply ev_andV); (focus (walk_at "ev")); (focus (intro _; walk_at "ev")))
    | ((with_reducible apply ev_orV); (focus (walk_at "ev")); (focus (intro _; walk_at "ev")))
    | ((with_reducible apply ev_notV); (focus (walk_at "ev"))))
section
variable {P : Program} {w : World} {K : PySem.W.Frag} {mg : Str → Option Value} {base : Heap}
/-- what is found is what t changes or fewer lead to; the level is what t lead to -/
structure Inv0 (n : Int) (ps : List (Int × Int)) (l : List Int) (t : Nat) (en : List En) (lvl : List (List Int)) : Prop where
  at_ : ∀ m x, lookE en m = some x ↔ ∃ s : Nat, s ≤ t ∧ x = s ∧ Dist ps l m s
  lv : ∀ m, m ∈ lvl ↔ Dist ps l m t
  nd : (en.map (·.1)).Nodup
  le : lvl.length ≤ en.length
/-- within a level -/
structure Inv1 (n : Int) (ps : List (Int × Int)) (l : List Int) (t : Nat) (en0 : List En) (dn : List Int → Nat → Prop) (en : List En) (lt : List (List Int)) : Prop where
  at_ : ∀ m x, lookE en m = some x ↔ (∃ s : Nat, s ≤ t ∧ x = s ∧ Dist ps l m s) ∨ (x = ((t + 1 : Nat) : Int) ∧ m ∈ lt)
  new : ∀ m ∈ lt, Dist ps l m (t + 1)
  dn : ∀ h k, dn h k → okAt ps h k → ∃ x, lookE en (swapAt h k) = some x
  len : en.length = en0.length + lt.length
  nd : (en.map (·.1)).Nodup
/-- few enough rows that all can be looked at -/
def Few (n : Int) (l : List Int) : Prop := l.length ≤ 20 ∧ n.toNat ^ l.length ≤ 2000000
theorem Few.of6 {n : Int} {l : List Int} (h : n ≤ 6) (hl : l.length ≤ 6) : Few n l := by
  have a : n.toNat ^ l.length ≤ 6 ^ l.length := Nat.pow_le_pow_left (by omega) _
  have b : 6 ^ l.length ≤ 6 ^ 6 := Nat.pow_le_pow_right (by decide) hl
  have c : (6 : Nat) ^ 6 = 46656 := by decide
  exact ⟨by omega, by omega⟩
theorem en_bound {n : Int} {ps : List (Int × Int)} {l : List Int} {en : List En} (hn : 0 ≤ n) (hn6 : n ≤ 6) (hl : Few n l) (hr : rowIn n l) (nd : (en.map (·.1)).Nodup) (h : ∀ m x, lookE en m = some x → ∃ t, Dist ps l m t) : en.length ≤ 2000000 := by
  have z := nodup_le (en.map (·.1)) (allRows n.toNat l.length) nd fun m hm => by
    obtain ⟨x, hx⟩ := look_some hm
    obtain ⟨t, ⟨ks, w, _⟩, _⟩ := h m x hx
    have p := w.perm
    refine mem_allRows p.length_eq.symm fun y hy => ?_
    have := hr y (p.mem_iff.mpr hy)
    omega
  rw [List.length_map, allRows_len] at z
  exact Nat.le_trans z hl.2
theorem Inv0.start {n : Int} {ps : List (Int × Int)} {l : List Int} {b : Addr} : Inv0 n ps l 0 [(l, 0, b)] [l] := by
  have z : ∀ m, Dist ps l m 0 → m = l := fun m d => by
    obtain ⟨⟨ks, w, e⟩, _⟩ := d
    have : ks = [] := List.length_eq_zero_iff.mp e
    subst this
    cases w
    rfl
  refine ⟨fun m x => ?_, fun m => ⟨fun h => ?_, fun h => ?_⟩, by simp, by simp⟩
  · by_cases e : l = m
    · subst e
      have q : lookE [(l, (0 : Int), b)] l = some 0 := by simp [lookE]
      rw [q]
      constructor
      · intro h
        exact ⟨0, Nat.le_refl _, (Option.some.inj h).symm, Dist.self ps l⟩
      · rintro ⟨s, hs, rfl, _⟩
        rw [show s = 0 by omega]
        rfl
    · have q : lookE [(l, (0 : Int), b)] m = none := by simp [lookE, List.find?_cons, e]
      rw [q]
      constructor
      · intro h; cases h
      · rintro ⟨s, hs, rfl, d⟩
        rw [show s = 0 by omega] at d
        exact absurd (z m d).symm e
  · rw [List.mem_singleton.mp h]
    exact Dist.self ps l
  · rw [z m h]
    exact List.mem_singleton.mpr rfl
theorem Inv0.mid {n : Int} {ps : List (Int × Int)} {l : List Int} {t : Nat} {en : List En} {lvl : List (List Int)} (h : Inv0 n ps l t en lvl) {dn : List Int → Nat → Prop} (hd : ∀ r k, ¬ dn r k) : Inv1 n ps l t en dn en [] :=
  ⟨fun m x => by rw [h.at_]; simp, fun m hm => by simp at hm, fun r k q => absurd q (hd r k), by simp, h.nd⟩
theorem Inv1.more {n : Int} {ps : List (Int × Int)} {l : List Int} {t : Nat} {en0 en : List En} {dn dn' : List Int → Nat → Prop} {lt : List (List Int)} (h : Inv1 n ps l t en0 dn en lt) (hd : ∀ r k, dn' r k → okAt ps r k → dn r k ∨ ∃ x, lookE en (swapAt r k) = some x) : Inv1 n ps l t en0 dn' en lt :=
  ⟨h.at_, h.new, fun r k q o => (hd r k q o).elim (fun z => h.dn r k z o) id, h.len, h.nd⟩
theorem Inv1.put {n : Int} {ps : List (Int × Int)} {l : List Int} {t : Nat} {en0 en : List En} {dn dn' : List Int → Nat → Prop} {lt : List (List Int)} (h : Inv1 n ps l t en0 dn en lt) {r : List Int} {k : Nat} {b : Addr} (d : Dist ps l r t) (o : okAt ps r k) (hz : lookE en (swapAt r k) = none)
    (hd : ∀ r' k', dn' r' k' → dn r' k' ∨ (r' = r ∧ k' = k)) : Inv1 n ps l t en0 dn' (en ++ [(swapAt r k, ((t + 1 : Nat) : Int), b)]) (lt ++ [swapAt r k]) := by
  have look : ∀ m, lookE (en ++ [(swapAt r k, ((t + 1 : Nat) : Int), b)]) m = if m = swapAt r k then some ((t + 1 : Nat) : Int) else lookE en m := fun m => lookE_snoc hz
  have no : ∀ s, s ≤ t → ¬ Dist ps l (swapAt r k) s := fun s hs dd => by
    have := (h.at_ (swapAt r k) s).mpr (.inl ⟨s, hs, rfl, dd⟩)
    rw [hz] at this
    cases this
  have dnew := d.next o no
  refine ⟨fun m x => ?_, fun m hm => ?_, fun r' k' q o' => ?_, ?_, ?_⟩
  · rw [look]
    by_cases e : m = swapAt r k
    · subst e
      rw [if_pos rfl]
      constructor
      · intro z
        exact .inr ⟨(Option.some.inj z).symm, by simp⟩
      · rintro (⟨s, hs, _, dd⟩ | ⟨e, _⟩)
        · exact absurd dd (no s hs)
        · rw [e]
    · rw [if_neg e, h.at_]
      simp [e]
  · rcases List.mem_append.mp hm with hm | hm
    · exact h.new m hm
    · rw [List.mem_singleton.mp hm]; exact dnew
  · rw [look]
    by_cases e : swapAt r' k' = swapAt r k
    · rw [if_pos e]; exact ⟨_, rfl⟩
    · rw [if_neg e]
      rcases hd r' k' q with z | ⟨rfl, rfl⟩
      · exact h.dn r' k' z o'
      · exact absurd rfl e
  · rw [List.length_append, List.length_append, h.len]
    simp
    omega
  · rw [List.map_append]
    exact List.nodup_append.mpr ⟨h.nd, by simp, fun a ha b hb => by
      have : b = swapAt r k := by simpa using hb
      subst this
      exact fun e => look_none hz (e ▸ ha)⟩
theorem Inv1.done {n : Int} {ps : List (Int × Int)} {l : List Int} {t : Nat} {en0 en : List En} {lvl lt : List (List Int)} (h0 : ∀ m, m ∈ lvl ↔ Dist ps l m t) (h : Inv1 n ps l t en0 (fun r _ => r ∈ lvl) en lt) : Inv0 n ps l (t + 1) en lt := by
  have lv : ∀ m, m ∈ lt ↔ Dist ps l m (t + 1) := fun m => ⟨h.new m, fun d => by
    obtain ⟨r, k, d', o, rfl⟩ := d.last
    obtain ⟨x, hx⟩ := h.dn r k ((h0 r).mpr d') o
    rcases (h.at_ _ _).mp hx with ⟨s, hs, _, dd⟩ | ⟨_, hm⟩
    · have := dd.uniq d
      omega
    · exact hm⟩
  refine ⟨fun m x => ?_, lv, h.nd, by rw [h.len]; omega⟩
  rw [h.at_]
  constructor
  · rintro (⟨s, hs, e, d⟩ | ⟨e, hm⟩)
    · exact ⟨s, by omega, e, d⟩
    · exact ⟨t + 1, Nat.le_refl _, e, h.new m hm⟩
  · rintro ⟨s, hs, e, d⟩
    by_cases z : s ≤ t
    · exact .inl ⟨s, z, e, d⟩
    · rw [show s = t + 1 by omega] at e d
      exact .inr ⟨e, (lv m).mpr d⟩
/-- hands back a dict: every row that can be reached, by the least number of changes -/
def spCl (K : PySem.W.Frag) (C : Addr) (P : Program) (W : World) : Sp := fun vs H Q _ => ∃ (n : Int) (ps : List (Int × Int)) (l : List Int) (v1 v2 : V), vs = [v1, v2] ∧ Td K H v1 (pairsD ps) ∧ Td K H v2 (row l) ∧ PairsOk n ps ∧ 0 ≤ n ∧ n ≤ 6 ∧ Few n l ∧ rowIn n l ∧
  ∀ f en H', H f = none → Same H H' → CtAt K C H' (.ref f) (dct P W f en) → (∀ m x, lookE en m = some x ↔ ∃ t : Nat, x = t ∧ Dist ps l m t) → (en.map (·.1)).Nodup → Q (.ref f) H'
end
end K1
set_option maxRecDepth 10000000
namespace K1
open PySem PySem.Spec PyProof.Rows L2 Pt
local macro_rules
  | `(tactic| walk_at "sz") => `(tactic| first
    | omega
    | decide
    | (simp; omega)
    | (simp [iL, row, pairsD]; omega))
  | `(tactic| walk_at "ea") => `(tactic| first
    | (with_reducible exact ea_nil)
    | ((with_reducible apply ea_consL); (focus (walk_at "ev")); (focus (walk_at "ea")))
    | ((with_reducible apply ea_consS); (focus (walk_at "ev")); (focus (walk_at "ea")))
    | ((with_reducible apply ea_cons); (focus (walk_at "ev")); (focus (walk_at "ea")))
    | ((with_reducible apply ea_consN); (focus (walk_at "en")); (focus (walk_at "ea"))))
  | `(tactic| walk_at "ed") => `(tactic| first
    | (with_reducible exact ed_nil)
    | ((with_reducible apply ed_cons); (focus (walk_at "ev")); (focus (walk_at "ed"))))
  | `(tactic| walk_at "en") => `(tactic| first
    | ((with_reducible apply en_lst); (focus (walk_at "ed")); (focus (simp)))
    | ((with_reducible apply en_listT); (focus (walk_at "ev")))
    | ((with_reducible apply en_addL); (focus (walk_at "ev")); (focus (walk_at "en")); (focus (walk_at "sz")))
    | ((with_reducible apply en_addN); (focus (walk_at "en")); (focus (walk_at "en")); (focus (walk_at "sz")))
    | ((with_reducible apply en_slL); (focus (walk_at "ev")); (focus (walk_at "eo")); (focus (walk_at "eo"))))
  | `(tactic| walk_at "eo") => `(tactic| first
    | (with_reducible exact eo_none)
    | ((with_reducible apply eo_some); (focus (walk_at "ev"))))
  | `(tactic| walk_at "et") => `(tactic| first
    | (with_reducible exact et_yes)
    | ((with_reducible apply et_test); (focus (walk_at "ev")))
    | ((with_reducible apply et_B); (focus (walk_at "ev")))
    | ((with_reducible apply et_truB); (focus (walk_at "ev")))
    | ((with_reducible apply et_truT); (focus (walk_at "ev")))
    | ((with_reducible apply et_not); (focus (walk_at "et")))
    | ((with_reducible apply et_and); (focus (walk_at "et")); (focus (intro _; walk_at "et")))
    | ((with_reducible apply et_or); (focus (walk_at "et")); (focus (intro _; walk_at "et"))))
  | `(tactic| walk_at "var") => `(tactic| first
    | ((with_reducible apply ev_varD); (focus (assumption)); (focus (rfl)))
    | ((with_reducible apply ev_varL); (focus (assumption)); (focus (rfl)))
    | ((with_reducible apply ev_varS); (focus (assumption)); (focus (rfl)))
    | ((with_reducible apply ev_varT); (focus (assumption)); (focus (rfl)))
    | ((with_reducible apply ev_varH); (focus (assumption)); (focus (rfl)))
    | ((with_reducible apply ev_varZ); (focus (assumption)); (focus (rfl))))
  | `(tactic| walk_at "ev") => `(tactic| first
    | walk_at "var"
    | (with_reducible exact ev_int)
    | (with_reducible exact ev_bl)
    | (with_reducible exact ev_str)
    | (with_reducible exact ev_non)
    | ((with_reducible apply ev_letters); (focus (walk_at "ev")))
    | ((with_reducible apply ev_pairs); (focus (walk_at "ev")))
    | ((with_reducible apply ev_addI); (focus (walk_at "ev")); (focus (walk_at "ev")))
    | ((with_reducible apply ev_addT); (focus (walk_at "ev")); (focus (walk_at "ev")); (focus (walk_at "sz")))
    | ((with_reducible apply ev_i0); (focus (walk_at "ev")); (focus (walk_at "ev")); (focus (first | exact fun _ => .int _ | exact fun _ => .bl _)))
    | ((with_reducible apply ev_iC); (focus (walk_at "ev")); (focus (walk_at "ev")); (focus (first | assumption | walk_at "cond")); (focus (exact fun _ => .int _)))
    | ((with_reducible apply ev_chain); (focus (walk_at "ev")); (focus (walk_at "ev")); (focus (walk_at "ev")))
    | ((with_reducible apply ev_eqI); (focus (walk_at "ev")); (focus (walk_at "ev")))
    | ((with_reducible apply ev_neI); (focus (walk_at "ev")); (focus (walk_at "ev")))
    | ((with_reducible apply ev_eqR); (focus (walk_at "ev")); (focus (walk_at "ev")))
    | ((with_reducible apply ev_neR); (focus (walk_at "ev")); (focus (walk_at "ev")))
    | ((with_reducible apply ev_isN); (focus (walk_at "ev")))
    | ((with_reducible apply ev_notN); (focus (walk_at "ev")))
    | ((with_reducible apply ev_in2); (focus (walk_at "ev")); (focus (walk_at "ev")); (focus (walk_at "ev")))
    | ((with_reducible apply ev_inP); (focus (walk_at "ev")); (focus (walk_at "ev")))
    | ((with_reducible apply ev_tup); (focus (walk_at "ed")); (focus (simp)))
    | ((with_reducible apply ev_lenT); (focus (walk_at "ev")))
    | ((with_reducible apply ev_lenL); (focus (walk_at "ev")))
    | ((with_reducible apply ev_lenS); (focus (walk_at "ev")))
    | ((with_reducible apply ev_lenN); (focus (walk_at "en")))
    | ((with_reducible apply ev_max2); (focus (walk_at "ev")); (focus (walk_at "ev")))
    | ((with_reducible apply ev_min2); (focus (walk_at "ev")); (focus (walk_at "ev")))
    | ((with_reducible apply ev_int1); (focus (walk_at "ev")))
    | ((with_reducible apply ev_tupleL); (focus (walk_at "ev")))
    | ((with_reducible apply ev_tupleN); (focus (walk_at "en")))
    | ((with_reducible apply ev_countT); (focus (walk_at "ev")); (focus (walk_at "ev")))
    | ((with_reducible apply ev_andV); (focus (walk_at "ev")); (focus (intro _; walk_at "ev")))
    | ((with_reducible apply ev_orV); (focus (walk_at "ev")); (focus (intro _; walk_at "ev")))
    | ((with_reducible apply ev_notV); (focus (walk_at "ev"))))
section
variable {P : Program} {w : World} {K : PySem.W.Frag} {mg : Str → Option Value} {base : Heap}
/-! ### what a letter bars, as bits -/
def barN (ps : List (Int × Int)) (a : Int) : Nat → Nat
  | 0 => 0
  | k + 1 => if may ps a k = true then barN ps a k else barN ps a k ||| 2 ^ k
theorem barN_bit (ps : List (Int × Int)) (a : Int) : ∀ k j : Nat, (barN ps a k).testBit j = (decide (j < k) && !may ps a j)
  | 0, j => by simp [barN]
  | k + 1, j => by
    unfold barN
    by_cases h : may ps a k = true
    · rw [if_pos h, barN_bit ps a k j]
      by_cases e : j = k
      · subst e; simp [h]
      · rw [show decide (j < k + 1) = decide (j < k) by congr 1; simp; omega]
    · rw [if_neg h, Nat.testBit_or, barN_bit ps a k j, Nat.testBit_two_pow]
      by_cases e : j = k
      · subst e; simp [h]
      · rw [show decide (j < k + 1) = decide (j < k) by congr 1; simp; omega, decide_eq_false (p := k = j) (fun z => e z.symm), Bool.or_false]
def barsL (n : Int) (ps : List (Int × Int)) : List Int := (List.range n.toNat).map fun a : Nat => ((barN ps a n.toNat : Nat) : Int)
theorem bitOr_nat (a b : Nat) : Builtin.bitOr (a : Int) (b : Int) = ((a ||| b : Nat) : Int) := by
  rw [Bits.bitOr_pp (Int.natCast_nonneg a) (Int.natCast_nonneg b)]
  simp
abbrev A_bars_of (as : List Ag) (ds : List PyData) : Prop := ∃ (n : Int) (ps : List (Int × Int)), 0 ≤ n ∧ n ≤ 6 ∧ as = [.c (.t n ps)] ∧ ds = iL (barsL n ps)
theorem ok_bars_of (E : Nv K mg) : FnOk P w K mg base CX0 12 E.a_bars_of E.d_bars_of ["trade"] (spN K E.C_Trade A_bars_of) := by
  refine E.F_bars_of.ok sc_bars_of (fun vs H Q _ h => ?_) (fun cdv A outer s H vs Q _ hr h => ?_)
  · obtain ⟨as, d, ha, ⟨_, _, _, _, rfl, _⟩, _⟩ := h
    exact ha.length
  · obtain ⟨as, d, ha, ⟨n, ps, h0, h6, rfl, rfl⟩, q⟩ := h
    obtain ⟨v1, rfl, a1⟩ := ha.one
    refine ⟨_, (pss_cons (ps_set (i := 1) sc_bars_of.nd rfl (.inl rfl) (pe_lst pa_nil))
      (pss_cons (ps_for PassesOwn.never rfl (pi_range1 (by rfl) E.n_range (pa_cons (pe_prop (pv 0) E.cl E.p_letters (ok_Trade_letters E) (hr.mono (by first | decide | omega)) E.b_Trade_letters .nil pass0 rfl) pa_nil)) (pg_name (i := 2) sc_bars_of.nd rfl (.inl rfl))
      (pss_cons (ps_set (i := 3) sc_bars_of.nd rfl (.inl rfl) pe_int)
      (pss_cons (ps_for PassesOwn.never rfl (pi_range1 (by rfl) E.n_range (pa_cons (pe_prop (pv 0) E.cl E.p_letters (ok_Trade_letters E) (hr.mono (by first | decide | omega)) E.b_Trade_letters .nil pass0 rfl) pa_nil)) (pg_name (i := 4) sc_bars_of.nd rfl (.inl rfl))
      (pss_one (ps_if (pt_not (pt_truK K (pe_call (ok_may_change E) (hr.mono (by first | decide | omega)) (by rfl) E.m_may_change E.F_may_change.kp E.b_may_change .nil pass0 (pa_cons (pv 0) (pa_cons (pv 2) (pa_cons (pv 4) pa_nil)))) (fun _ => rfl))) (pss_one (ps_set (i := 3) sc_bars_of.nd rfl (.inl rfl) (pe_op op_or (pv 3) (pe_op op_shl pe_int (pv 4))))) pss_nil)))
      (pss_one (ps_expr (pe_bm PySem.F.plainAttrs_list PySem.F.slot_list_append PySem.F.type_list_append mt_append (pv 1) (pa_cons (pv 3) pa_nil)))))))
      (pss_one (ps_ret (pv 1))))), ?_⟩
    have w : Wd K E.C_Trade [] [] H H _ [.t n ps, .u, .u, .u, .u] := Wd.start1 (N := N_bars_of) a1
    refine q_asgN w (en_lst ed_nil) fun p σ1 H1 hp1 w1 => ?_
    refine q_forR1 w1 (n := n) (by walk_at "ea") (by omega) (fun k σ H' => ∃ c2 c3 c4, Wd K E.C_Trade [] [] H H' σ [.t n ps, .l p (iL ((barsL n ps).take k)), c2, c3, c4]) (fun H1 w1 => ⟨_, _, _, w1⟩) ?_ ?_
    · rintro k σ H' hk ⟨c2, c3, c4, w2⟩
      have w3 : Wd K E.C_Trade [] [] H H' _ [.t n ps, .l p (iL ((barsL n ps).take k)), .d (.int k), c3, c4] := w2.set 2 (v := .int k) (c := .d (.int k)) (Td.int _)
      refine q_asgD w3 ev_int fun σ4 H4 w4 => ?_
      refine q_forR1 w4 (n := n) (by walk_at "ea") (by omega) (fun i σ H' => ∃ c4, Wd K E.C_Trade [] [] H H' σ [.t n ps, .l p (iL ((barsL n ps).take k)), .d (.int k), .d (.int (barN ps k i : Nat)), c4]) (fun H1 w1 => ⟨_, w1⟩) ?_ ?_
      · rintro i σ H' hi ⟨c4, w5⟩
        have w6 : Wd K E.C_Trade [] [] H H' _ [.t n ps, .l p (iL ((barsL n ps).take k)), .d (.int k), .d (.int (barN ps k i : Nat)), .d (.int i)] := w5.set 4 (v := .int i) (c := .d (.int i)) (Td.int _)
        refine s_if w6 (b := !may ps k i) (et_not (et_truB (ev_call (by walk_at "ea") ⟨_, _, _, _, rfl, rfl⟩))) (fun e H7 w7 => ?_) (fun e H7 w7 => ?_)
        · have e' : ¬ may ps k i = true := by simpa using e
          refine s_asgD w7 (d := .int (barN ps k (i + 1) : Nat)) (ev_d (ev_i0 (ev_var w7 rfl) (ev_iC (d := .int (1 * 2 ^ (i : Int).toNat)) ev_int (ev_var w7 rfl) ⟨by omega, by omega, by decide⟩ (fun _ => .int _)) (fun _ => .int _)) ?_) fun σ8 H8 w8 => ⟨_, w8⟩
          rw [Int.toNat_natCast, Int.one_mul, show ((2 : Int) ^ i) = ((2 ^ i : Nat) : Int) by simp, bitOr_nat]
          rw [show barN ps k (i + 1) = barN ps k i ||| 2 ^ i from if_neg e']
        · have e' : may ps k i = true := by simpa using e
          refine s_next ⟨.d (.int i), ?_⟩
          rw [show barN ps k (i + 1) = barN ps k i from if_pos e']
          exact w7
      · rintro σ H' ⟨c4, w5⟩
        refine s_app w5 rfl (ev_var w5 rfl) (by rw [iL_len, List.length_take]; omega) fun H8 w8 => ⟨.d (.int k), .d (.int (barN ps k n.toNat : Nat)), c4, ?_⟩
        have hk' : k < n.toNat := by omega
        have e0 : (barsL n ps)[k]? = some ((barN ps k n.toNat : Nat) : Int) := by
          unfold barsL
          rw [List.getElem?_map, List.getElem?_range hk']
          rfl
        rw [List.take_add_one, e0, iL_app]
        exact w8
    · rintro σ H' ⟨c2, c3, c4, w2⟩
      have e : (barsL n ps).take n.toNat = barsL n ps := List.take_of_length_le (by unfold barsL; rw [List.length_map, List.length_range]; exact Nat.le_refl _)
      rw [e] at w2
      exact s_retLQ w2 q rfl
/-! ### the letters that can stand first -/
/-- p's letter is barred by none before it -/
def canFirst (ps : List (Int × Int)) (l : List Int) (p : Nat) : Bool := (l.take p).all fun x => may ps x (l.getD p 0)
def firstsL (ps : List (Int × Int)) (l : List Int) : List (Int × Int) := ((List.range l.length).filter (canFirst ps l)).map fun p : Nat => (l.getD p 0, (p : Int))
/-- what the letters bar, together -/
def barred (n : Int) (ps : List (Int × Int)) : List Int → Nat
  | [] => 0
  | x :: r => barN ps x n.toNat ||| barred n ps r
theorem barred_bit (n : Int) (ps : List (Int × Int)) (j : Nat) : ∀ l : List Int, (barred n ps l).testBit j = (decide (j < n.toNat) && !(l.all fun x => may ps x j))
  | [] => by simp [barred]
  | x :: r => by
    unfold barred
    rw [Nat.testBit_or, barN_bit, barred_bit n ps j r, List.all_cons, Bool.not_and, Bool.and_or_distrib_left]
theorem barred_snoc (n : Int) (ps : List (Int × Int)) (x : Int) : ∀ l : List Int, barred n ps (l ++ [x]) = barred n ps l ||| barN ps x n.toNat
  | [] => by simp [barred]
  | y :: r => by
    show barN ps y n.toNat ||| barred n ps (r ++ [x]) = (barN ps y n.toNat ||| barred n ps r) ||| barN ps x n.toNat
    rw [barred_snoc n ps x r, Nat.or_assoc]
theorem bars_get {n : Int} {ps : List (Int × Int)} {x : Int} (h0 : 0 ≤ x) (hn : x < n) : atI (iL (barsL n ps)) x = some (.int (barN ps x n.toNat : Nat)) := by
  have e : x = ((x.toNat : Nat) : Int) := by omega
  rw [e]
  refine atI_nat ?_
  rw [iL_get]
  unfold barsL
  rw [List.getElem?_map, List.getElem?_range (by omega)]
  simp only [Option.map_some, ← e]
theorem shr_and (b j : Nat) : Builtin.bitAnd ((b : Int) / 2 ^ j) 1 = (if b.testBit j = true then 1 else 0 : Int) := by
  rw [PyProof.Rows.bitAnd_m1, show (2 : Int) ^ j = ((2 ^ j : Nat) : Int) by simp, ← Int.natCast_ediv, Nat.testBit_eq_decide_div_mod_eq]
  have h : b / 2 ^ j % 2 < 2 := Nat.mod_lt _ (by decide)
  by_cases e : b / 2 ^ j % 2 = 1
  · rw [if_pos (decide_eq_true e)]
    omega
  · rw [if_neg (by simpa using e)]
    omega
abbrev A_first_letters (as : List Ag) (ds : List PyData) : Prop := ∃ (n : Int) (ps : List (Int × Int)) (l : List Int), PairsOk n ps ∧ 0 ≤ n ∧ n ≤ 6 ∧ l.length ≤ 20 ∧ rowIn n l ∧ as = [.n (iL (barsL n ps)), .c (.d (row l))] ∧ ds = (firstsL ps l).map Pt.pairD
theorem can_bit {n : Int} {ps : List (Int × Int)} {l : List Int} {t : Nat} (ht : t < l.length) (h : rowIn n l) : (!(barred n ps (l.take t)).testBit l[t].toNat) = canFirst ps l t := by
  have hx := h _ (List.getElem_mem ht)
  rw [barred_bit, decide_eq_true (show l[t].toNat < n.toNat by omega), Bool.true_and, Bool.not_not]
  unfold canFirst
  have e1 : l.getD t 0 = l[t] := by rw [List.getD_eq_getElem?_getD, List.getElem?_eq_getElem ht]; rfl
  rw [e1, Int.toNat_of_nonneg hx.1]
def firstsTo (ps : List (Int × Int)) (l : List Int) (t : Nat) : List (Int × Int) := ((List.range t).filter (canFirst ps l)).map fun p : Nat => (l.getD p 0, (p : Int))
theorem firstsTo_succ (ps : List (Int × Int)) (l : List Int) (t : Nat) : firstsTo ps l (t + 1) = if canFirst ps l t = true then firstsTo ps l t ++ [(l.getD t 0, (t : Int))] else firstsTo ps l t := by
  unfold firstsTo
  rw [List.range_succ, List.filter_append, List.map_append]
  cases e : canFirst ps l t <;> simp [e]
theorem firstsTo_len (ps : List (Int × Int)) (l : List Int) (t : Nat) : (firstsTo ps l t).length ≤ t := by
  unfold firstsTo
  rw [List.length_map]
  exact Nat.le_trans (List.length_filter_le _ _) (by rw [List.length_range]; exact Nat.le_refl _)
theorem ok_first_letters (E : Nv K mg) : FnOk P w K mg base CX0 4 E.a_first_letters E.d_first_letters ["bars", "row"] (spN K E.C_Trade A_first_letters) := by
  refine E.F_first_letters.ok sc_first_letters (fun vs H Q _ h => ?_) (fun cdv A outer s H vs Q _ hr h => ?_)
  · obtain ⟨as, d, ha, ⟨_, _, _, _, _, _, _, _, rfl, _⟩, _⟩ := h
    exact ha.length
  · obtain ⟨as, d, ha, ⟨n, ps, l, hok, h0, h6, hl, hin, rfl, rfl⟩, q⟩ := h
    obtain ⟨v1, v2, rfl, a1, a2⟩ := ha.two
    obtain ⟨pb, a1⟩ := a1.lent
    refine ⟨_, (pss_cons (ps_set (i := 2) sc_first_letters.nd rfl (.inl rfl) (pe_lst pa_nil))
      (pss_cons (ps_set (i := 3) sc_first_letters.nd rfl (.inl rfl) pe_int)
      (pss_cons (ps_for PassesOwn.never rfl (pi_enumTK K (by rfl) E.n_enumerate (pa_cons (pv 1) pa_nil)) (pg_tupK K (n := 2) rfl (pgs_cons (pg_name (i := 4) sc_first_letters.nd rfl (.inl rfl)) (pgs_cons (pg_name (i := 5) sc_first_letters.nd rfl (.inl rfl)) pgs_nil)))
      (pss_cons (ps_if (pt_cmpR (op_eqK K hr.units) (pe_op op_and (pe_op op_shr (pv 3) (pv 5)) pe_int) pe_int (nomark _)) (pss_one (ps_expr (pe_bm PySem.F.plainAttrs_list PySem.F.slot_list_append PySem.F.type_list_append mt_append (pv 2) (pa_cons (pe_tupF (pa_cons (pv 5) (pa_cons (pv 4) pa_nil))) pa_nil)))) pss_nil)
      (pss_one (ps_set (i := 3) sc_first_letters.nd rfl (.inl rfl) (pe_op op_or (pv 3) (pe_ix (ix_K K) (pv 0) (pv 5) (fun _ _ => rfl)))))))
      (pss_one (ps_ret (pv 2)))))), ?_⟩
    have w : Wd K E.C_Trade [] [] H H _ [.s pb (iL (barsL n ps)), .d (row l), .u, .u, .u, .u] := Wd.start2 (N := N_first_letters) a1 a2
    refine q_asgN w (en_lst ed_nil) fun p σ1 H1 hp1 w1 => ?_
    refine q_asgD w1 ev_int fun σ2 H2 w2 => ?_
    refine q_forE w2 (ev_var w2 rfl) (fun a t σ H' => ∃ c4 c5, Wd K E.C_Trade [] [(.ref a, row l)] H H' σ [.s pb (iL (barsL n ps)), .d (row l), .l p ((firstsTo ps l t).map Pt.pairD), .d (.int (barred n ps (l.take t) : Nat)), c4, c5]) (fun a H3 w3 => ⟨_, _, w3⟩) (fun a t σ H' ⟨_, _, w3⟩ => w3.gh0) ?_ ?_
    · rintro a t d v σ H' H3 hd tv ⟨c4, c5, w3⟩ e3
      have ht : t < l.length := by
        have := (List.getElem?_eq_some_iff.mp hd).1
        rw [iL_len] at this
        exact this
      have ed : d = .int l[t] := by
        rw [iL_get, List.getElem?_eq_getElem ht] at hd
        exact (Option.some.inj hd).symm
      subst ed
      have hx := hin _ (List.getElem_mem ht)
      have ge : l.getD t 0 = l[t] := by rw [List.getD_eq_getElem?_getD, List.getElem?_eq_getElem ht]; rfl
      have w4 : Wd K E.C_Trade [] [(.ref a, row l)] H H3 _ [.s pb (iL (barsL n ps)), .d (row l), .l p ((firstsTo ps l t).map Pt.pairD), .d (.int (barred n ps (l.take t) : Nat)), .d (.int (t : Nat)), .d (.int l[t])] := ((w3.mono e3).set 4 (v := .int (t : Nat)) (c := .d (.int (t : Nat))) (Td.int _)).set 5 tv
      have w5' : ∀ H5 σ5 ds, Wd K E.C_Trade [] [(.ref a, row l)] H H5 σ5 [.s pb (iL (barsL n ps)), .d (row l), .l p ds, .d (.int (barred n ps (l.take t) : Nat)), .d (.int (t : Nat)), .d (.int l[t])] → ds = (firstsTo ps l (t + 1)).map Pt.pairD → ∀ D : Ends, (∀ σ H', (∃ c4 c5, Wd K E.C_Trade [] [(.ref a, row l)] H H' σ [.s pb (iL (barsL n ps)), .d (row l), .l p ((firstsTo ps l (t + 1)).map Pt.pairD), .d (.int (barred n ps (l.take (t + 1)) : Nat)), c4, c5]) → D.nx σ H') →
          tAsg (tOp (rI0 fun i j => V.int (Builtin.bitOr i j)) (tVar 3) (tOp (rIx K) (tVar 0) (tVar 5))) (gName 3) D σ5 H5 := fun H5 σ5 ds w5 eds D k => by
        subst eds
        refine s_asgD w5 (d := .int (barred n ps (l.take (t + 1)) : Nat)) (ev_d (ev_i0 (ev_var w5 rfl) (ev_ixS (ev_var w5 rfl) (ev_var w5 rfl) (bars_get hx.1 hx.2)) (fun _ => .int _)) ?_) fun σ6 H6 w6 => k _ _ ⟨_, _, w6⟩
        rw [bitOr_nat, List.take_succ_eq_append_getElem ht, barred_snoc]
      refine q_if w4 (b := canFirst ps l t) (et_cast (et_test (ev_eqI (ev_i0 (ev_iC (d := .int ((barred n ps (l.take t) : Nat) / 2 ^ l[t].toNat)) (ev_var w4 rfl) (ev_var w4 rfl) hx.1 (fun _ => .int _)) ev_int (fun _ => .int _)) ev_int)) ?_) (fun e H5 w5 => ?_) (fun e H5 w5 => ?_)
      · rw [shr_and, ← can_bit ht hin]
        cases (barred n ps (l.take t)).testBit l[t].toNat <;> simp
      · refine s_app w5 rfl (d := Pt.pairD (l[t], (t : Int))) (ev_tup (ed_cons (ev_var w5 rfl) (ed_cons (ev_var w5 rfl) ed_nil))) (by rw [List.length_map]; have := firstsTo_len ps l t; omega) fun H6 w6 => ?_
        refine w5' H6 _ _ w6 ?_ _ fun _ _ z => z
        rw [firstsTo_succ, if_pos e, List.map_append, ge]
        rfl
      · refine s_next ?_
        refine w5' H5 _ _ w5 ?_ _ fun _ _ z => z
        rw [firstsTo_succ, if_neg (by rw [e]; exact Bool.false_ne_true)]
    · rintro a σ H' ⟨c4, c5, w3⟩
      rw [iL_len] at w3
      exact s_retLQ w3 q rfl
/-! ### a row without one letter -/
abbrev A_without (as : List Ag) (d : PyData) : Prop := ∃ (l : List Int) (p : Nat), p < l.length ∧ l.length < 1000 ∧ as = [.c (.d (row l)), .c (.d (.int (p : Nat)))] ∧ d = row (l.eraseIdx p)
theorem ok_without (E : Nv K mg) : FnOk P w K mg base CX0 4 E.a_without E.d_without ["row", "place"] (spC K E.C_Trade A_without) := by
  refine E.F_without.ok sc_without (fun vs H Q _ h => ?_) (fun cdv A outer s H vs Q _ hr h => ?_)
  · obtain ⟨as, d, ha, ⟨_, _, _, _, rfl, _⟩, _⟩ := h
    exact ha.length
  · obtain ⟨as, d, ha, ⟨l, p, hp, hl, rfl, rfl⟩, q⟩ := h
    obtain ⟨v1, v2, rfl, a1, a2⟩ := ha.two
    refine ⟨_, (pss_one (ps_ret (pe_op (op_addK K) (pe_slice (sl_K K) (pv 0) po_none (po_some (pv 1))) (pe_slice (sl_K K) (pv 0) (po_some (pe_op (op_addK K) (pv 1) pe_int)) po_none)))), ?_⟩
    have w : Wd K E.C_Trade [] [] H H _ [.d (row l), .d (.int (p : Nat))] := Wd.start2 (N := N_without) a1 a2
    have e1 : ((p : Nat) : Int) + 1 = ((p + 1 : Nat) : Int) := by omega
    refine s_retQ w q (ev_d (ev_addT (ev_slT (ev_var w rfl) eo_none (eo_some (ev_var w rfl))) (ev_slT (lo := some ((p + 1 : Nat) : Int)) (ev_var w rfl) (eo_some (ev_d (ev_addI (ev_var w rfl) ev_int) (by rw [e1]))) eo_none) ?_) ?_)
    · rw [cut_to, cut_from, List.length_take, List.length_drop, iL_len]
      omega
    · rw [cut_to, cut_from, List.eraseIdx_eq_take_drop_succ]
      show PyData.tuple _ = .tuple (iL _)
      unfold iL
      rw [List.map_append, List.map_take, List.map_drop]
end
end K1
set_option maxRecDepth 10000000
namespace K1
open PySem PySem.Spec PyProof.Rows L2 Pt
local macro_rules
  | `(tactic| walk_at "sz") => `(tactic| first
    | omega
    | decide
    | (simp; omega)
    | (simp [iL, row, pairsD]; omega))
  | `(tactic| walk_at "ea") => `(tactic| first
    | (with_reducible exact ea_nil)
    | ((with_reducible apply ea_consL); (focus (walk_at "ev")); (focus (walk_at "ea")))
    | ((with_reducible apply ea_consS); (focus (walk_at "ev")); (focus (walk_at "ea")))
    | ((with_reducible apply ea_cons); (focus (walk_at "ev")); (focus (walk_at "ea")))
    | ((with_reducible apply ea_consN); (focus (walk_at "en")); (focus (walk_at "ea"))))
  | `(tactic| walk_at "ed") => `(tactic| first
    | (with_reducible exact ed_nil)
    | ((with_reducible apply ed_cons); (focus (walk_at "ev")); (focus (walk_at "ed"))))
  | `(tactic| walk_at "en") => `(tactic| first
    | ((with_reducible apply en_lst); (focus (walk_at "ed")); (focus (simp)))
    | ((with_reducible apply en_listT); (focus (walk_at "ev")))
    | ((with_reducible apply en_addL); (focus (walk_at "ev")); (focus (walk_at "en")); (focus (walk_at "sz")))
    | ((with_reducible apply en_addN); (focus (walk_at "en")); (focus (walk_at "en")); (focus (walk_at "sz")))
    | ((with_reducible apply en_slL); (focus (walk_at "ev")); (focus (walk_at "eo")); (focus (walk_at "eo"))))
  | `(tactic| walk_at "eo") => `(tactic| first
    | (with_reducible exact eo_none)
    | ((with_reducible apply eo_some); (focus (walk_at "ev"))))
  | `(tactic| walk_at "et") => `(tactic| first
    | (with_reducible exact et_yes)
    | ((with_reducible apply et_test); (focus (walk_at "ev")))
    | ((with_reducible apply et_B); (focus (walk_at "ev")))
    | ((with_reducible apply et_truB); (focus (walk_at "ev")))
    | ((with_reducible apply et_truT); (focus (walk_at "ev")))
    | ((with_reducible apply et_not); (focus (walk_at "et")))
    | ((with_reducible apply et_and); (focus (walk_at "et")); (focus (intro _; walk_at "et")))
    | ((with_reducible apply et_or); (focus (walk_at "et")); (focus (intro _; walk_at "et"))))
  | `(tactic| walk_at "var") => `(tactic| first
    | ((with_reducible apply ev_varD); (focus (assumption)); (focus (rfl)))
    | ((with_reducible apply ev_varL); (focus (assumption)); (focus (rfl)))
    | ((with_reducible apply ev_varS); (focus (assumption)); (focus (rfl)))
    | ((with_reducible apply ev_varT); (focus (assumption)); (focus (rfl)))
    | ((with_reducible apply ev_varH); (focus (assumption)); (focus (rfl)))
    | ((with_reducible apply ev_varZ); (focus (assumption)); (focus (rfl))))
  | `(tactic| walk_at "ev") => `(tactic| first
    | walk_at "var"
    | (with_reducible exact ev_int)
    | (with_reducible exact ev_bl)
    | (with_reducible exact ev_str)
    | (with_reducible exact ev_non)
    | ((with_reducible apply ev_letters); (focus (walk_at "ev")))
    | ((with_reducible apply ev_pairs); (focus (walk_at "ev")))
    | ((with_reducible apply ev_addI); (focus (walk_at "ev")); (focus (walk_at "ev")))
    | ((with_reducible apply ev_addT); (focus (walk_at "ev")); (focus (walk_at "ev")); (focus (walk_at "sz")))
    | ((with_reducible apply ev_i0); (focus (walk_at "ev")); (focus (walk_at "ev")); (focus (first | exact fun _ => .int _ | exact fun _ => .bl _)))
    | ((with_reducible apply ev_iC); (focus (walk_at "ev")); (focus (walk_at "ev")); (focus (first | assumption | walk_at "cond")); (focus (exact fun _ => .int _)))
    | ((with_reducible apply ev_chain); (focus (walk_at "ev")); (focus (walk_at "ev")); (focus (walk_at "ev")))
    | ((with_reducible apply ev_eqI); (focus (walk_at "ev")); (focus (walk_at "ev")))
    | ((with_reducible apply ev_neI); (focus (walk_at "ev")); (focus (walk_at "ev")))
    | ((with_reducible apply ev_eqR); (focus (walk_at "ev")); (focus (walk_at "ev")))
    | ((with_reducible apply ev_neR); (focus (walk_at "ev")); (focus (walk_at "ev")))
    | ((with_reducible apply ev_isN); (focus (walk_at "ev")))
    | ((with_reducible apply ev_notN); (focus (walk_at "ev")))
    | ((with_reducible apply ev_in2); (focus (walk_at "ev")); (focus (walk_at "ev")); (focus (walk_at "ev")))
    | ((with_reducible apply ev_inP); (focus (walk_at "ev")); (focus (walk_at "ev")))
    | ((with_reducible apply ev_tup); (focus (walk_at "ed")); (focus (simp)))
    | ((with_reducible apply ev_lenT); (focus (walk_at "ev")))
    | ((with_reducible apply ev_lenL); (focus (walk_at "ev")))
    | ((with_reducible apply ev_lenS); (focus (walk_at "ev")))
    | ((with_reducible apply ev_lenN); (focus (walk_at "en")))
    | ((with_reducible apply ev_max2); (focus (walk_at "ev")); (focus (walk_at "ev")))
    | ((with_reducible apply ev_min2); (focus (walk_at "ev")); (focus (walk_at "ev")))
    | ((with_reducible apply ev_int1); (focus (walk_at "ev")))
    | ((with_reducible apply ev_tupleL); (focus (walk_at "ev")))
    | ((with_reducible apply ev_tupleN); (focus (walk_at "en")))
    | ((with_reducible apply ev_countT); (focus (walk_at "ev")); (focus (walk_at "ev")))
    | ((with_reducible apply ev_andV); (focus (walk_at "ev")); (focus (intro _; walk_at "ev")))
    | ((with_reducible apply ev_orV); (focus (walk_at "ev")); (focus (intro _; walk_at "ev")))
    | ((with_reducible apply ev_notV); (focus (walk_at "ev"))))
section
variable {P : Program} {w : World} {K : PySem.W.Frag} {mg : Str → Option Value} {base : Heap}
/-! ### the least of pairs -/
def ltB (p q : Int × Int) : Bool := decide (p.1 < q.1 ∨ (p.1 = q.1 ∧ p.2 < q.2))
def minP (p : Int × Int) (ps : List (Int × Int)) : Int × Int := ps.foldl (fun a y => if ltB y a = true then y else a) p
theorem minD_pairs (ps : List (Int × Int)) : ∀ p : Int × Int, PySem.W.minD (Pt.pairD p) (ps.map Pt.pairD) = Pt.pairD (minP p ps) := by
  unfold PySem.W.minD minP
  induction ps with
  | nil => intro p; rfl
  | cons y ps ih =>
    intro p
    rw [List.map_cons, List.foldl_cons, List.foldl_cons, ← ih]
    have e : PySem.W.dataLt (Pt.pairD y) (Pt.pairD p) = ltB y p := PySem.W.dataLt_ii y.1 y.2 p.1 p.2
    rw [e]
    cases ltB y p <;> rfl
theorem minP_mem (ps : List (Int × Int)) : ∀ p : Int × Int, minP p ps ∈ p :: ps := by
  unfold minP
  induction ps with
  | nil => intro p; exact List.mem_cons_self
  | cons y ps ih =>
    intro p
    rw [List.foldl_cons]
    have := ih (if ltB y p = true then y else p)
    cases h : ltB y p with
    | true =>
      rw [h, if_pos rfl] at this
      rw [if_pos rfl]
      exact List.mem_cons_of_mem _ this
    | false =>
      rw [h, if_neg Bool.false_ne_true] at this
      rw [if_neg Bool.false_ne_true]
      rcases List.mem_cons.mp this with z | z
      · rw [z]; exact List.mem_cons_self
      · exact List.mem_cons_of_mem _ (List.mem_cons_of_mem _ z)
theorem minP_le (ps : List (Int × Int)) : ∀ p : Int × Int, ∀ q ∈ p :: ps, ltB q (minP p ps) = false := by
  have tr : ∀ {a b c : Int × Int}, ltB a b = false → ltB b c = false → ltB a c = false := fun {a b c} h1 h2 => by
    unfold ltB at *
    simp only [decide_eq_false_iff_not] at *
    omega
  have rf : ∀ a : Int × Int, ltB a a = false := fun a => by
    unfold ltB
    simp
  unfold minP
  induction ps with
  | nil =>
    intro p q hq
    rw [List.mem_singleton.mp hq]
    exact rf p
  | cons y ps ih =>
    intro p q hq
    rw [List.foldl_cons]
    cases h : ltB y p with
    | true =>
      rw [if_pos rfl]
      rcases List.mem_cons.mp hq with rfl | hq
      · refine tr ?_ (ih y y List.mem_cons_self)
        unfold ltB at h ⊢
        simp only [decide_eq_false_iff_not, decide_eq_true_eq] at h ⊢
        omega
      · exact ih y q hq
    | false =>
      rw [if_neg Bool.false_ne_true]
      rcases List.mem_cons.mp hq with rfl | hq
      · exact ih q q List.mem_cons_self
      · rcases List.mem_cons.mp hq with rfl | hq
        · exact tr h (ih p p List.mem_cons_self)
        · exact ih p q (List.mem_cons_of_mem _ hq)
theorem pairs_alike (ps : List (Int × Int)) : PySem.W.AlikeAll (ps.map Pt.pairD) := by
  refine ⟨fun x hx y hy => ?_, fun x hx => ?_⟩
  · obtain ⟨p, _, rfl⟩ := List.mem_map.mp hx
    obtain ⟨q, _, rfl⟩ := List.mem_map.mp hy
    simp [Pt.pairD, PySem.W.alike, PySem.W.alikeAll]
  · obtain ⟨p, _, rfl⟩ := List.mem_map.mp hx
    intro z; cases z
/-! ### the least row -/
def bestFirst (ps : List (Int × Int)) (l : List Int) : Int × Int := match firstsL ps l with
  | [] => (0, 0)
  | p :: r => minP p r
def leastGo (ps : List (Int × Int)) : Nat → List Int → List Int
  | 0, _ => []
  | k + 1, l => (bestFirst ps l).1 :: leastGo ps k (l.eraseIdx (bestFirst ps l).2.toNat)
def leastL (ps : List (Int × Int)) (l : List Int) : List Int := leastGo ps l.length l
theorem firsts_ne {ps : List (Int × Int)} {l : List Int} (h : 0 < l.length) : firstsL ps l ≠ [] := by
  have m : (l.getD 0 0, ((0 : Nat) : Int)) ∈ firstsL ps l := List.mem_map.mpr ⟨0, List.mem_filter.mpr ⟨List.mem_range.mpr h, by simp [canFirst]⟩, rfl⟩
  exact fun e => by rw [e] at m; cases m
theorem firsts_mem {ps : List (Int × Int)} {l : List Int} {q : Int × Int} (h : q ∈ firstsL ps l) : ∃ p : Nat, p < l.length ∧ canFirst ps l p = true ∧ q = (l.getD p 0, (p : Int)) := by
  obtain ⟨p, hp, rfl⟩ := List.mem_map.mp h
  obtain ⟨h1, h2⟩ := List.mem_filter.mp hp
  exact ⟨p, List.mem_range.mp h1, h2, rfl⟩
theorem best_mem {ps : List (Int × Int)} {l : List Int} (h : 0 < l.length) : bestFirst ps l ∈ firstsL ps l := by
  unfold bestFirst
  cases e : firstsL ps l with
  | nil => exact absurd e (firsts_ne h)
  | cons p r => exact minP_mem r p
abbrev A_least_of (as : List Ag) (d : PyData) : Prop := ∃ (n : Int) (ps : List (Int × Int)) (l : List Int), PairsOk n ps ∧ 0 ≤ n ∧ n ≤ 6 ∧ l.length ≤ 20 ∧ rowIn n l ∧ as = [.n (iL (barsL n ps)), .c (.d (row l))] ∧ d = row (leastL ps l)
theorem ok_least_of (E : Nv K mg) : FnOk P w K mg base CX0 8 E.a_least_of E.d_least_of ["bars", "row"] (spC K E.C_Trade A_least_of) := by
  refine E.F_least_of.ok sc_least_of (fun vs H Q _ h => ?_) (fun cdv A outer s H vs Q _ hr h => ?_)
  · obtain ⟨as, d, ha, ⟨_, _, _, _, _, _, _, _, rfl, _⟩, _⟩ := h
    exact ha.length
  · obtain ⟨as, d, ha, ⟨n, ps, l, hok, h0, h6, hl, hin, rfl, rfl⟩, q⟩ := h
    obtain ⟨v1, v2, rfl, a1, a2⟩ := ha.two
    obtain ⟨pb, a1⟩ := a1.lent
    refine ⟨_, (pss_cons (ps_set (i := 2) sc_least_of.nd rfl (.inl rfl) (pe_lst pa_nil))
      (pss_cons (ps_set (i := 3) sc_least_of.nd rfl (.inl rfl) (pv 1))
      (pss_cons (ps_while PassesOwn.never (pt_truK K (pv 3) (fun _ => rfl)) (pss_cons (ps_asg (pe_callB (call_minK K rfl hr.units12) (by rfl) E.n_min (by decide +kernel) (pa_cons (pe_call (ok_first_letters E) (hr.mono (by first | decide | omega)) (by rfl) E.m_first_letters E.F_first_letters.kp E.b_first_letters .nil pass0 (pa_cons (pv 0) (pa_cons (pv 3) pa_nil))) pa_nil)) (pg_tupK K (n := 2) rfl (pgs_cons (pg_name (i := 4) sc_least_of.nd rfl (.inl rfl)) (pgs_cons (pg_name (i := 5) sc_least_of.nd rfl (.inl rfl)) pgs_nil))))
      (pss_cons (ps_expr (pe_bm PySem.F.plainAttrs_list PySem.F.slot_list_append PySem.F.type_list_append mt_append (pv 2) (pa_cons (pv 4) pa_nil)))
      (pss_one (ps_set (i := 3) sc_least_of.nd rfl (.inl rfl) (pe_call (ok_without E) (hr.mono (by first | decide | omega)) (by rfl) E.m_without E.F_without.kp E.b_without .nil pass0 (pa_cons (pv 3) (pa_cons (pv 5) pa_nil))))))))
      (pss_one (ps_ret (pe_callTy (call_tupleK K) (by rfl) E.n_tuple (by decide +kernel) (pa_cons (pv 2) pa_nil))))))), ?_⟩
    have w : Wd K E.C_Trade [] [] H H _ [.s pb (iL (barsL n ps)), .d (row l), .u, .u, .u, .u] := Wd.start2 (N := N_least_of) a1 a2
    refine q_asgN w (en_lst ed_nil) fun p σ1 H1 hp1 w1 => ?_
    refine q_asgD w1 (ev_var w1 rfl) fun σ2 H2 w2 => ?_
    refine s_seq ⟨fun M σ H' => ∃ (fo r : List Int) (c4 c5 : Ct), Wd K E.C_Trade [] [] H H' σ [.s pb (iL (barsL n ps)), .d (row l), .l p (iL fo), .d (row r), c4, c5] ∧ fo ++ leastL ps r = leastL ps l ∧ fo.length + r.length ≤ 20 ∧ rowIn n r ∧ M = r.length, ⟨_, [], l, _, _, w2, rfl, by simpa using hl, hin, rfl⟩, ?_⟩
    rintro M σ H' ⟨fo, r, c4, c5, w3, he, hlen, hr', rfl⟩
    refine (et_truT (ev_var (i := 3) w3 rfl)) H' (Same.refl H') _ fun H3 e3 => ?_
    have w4 := w3.mono e3
    cases hrr : r with
    | nil =>
      subst hrr
      rw [if_neg (show ¬ (!(iL ([] : List Int)).isEmpty) = true by simp [iL])]
      have e : fo = leastL ps l := by rw [← he]; simp [leastL, leastGo]
      rw [e] at w4
      exact s_retQ w4 q (ev_tupleL (ev_var w4 rfl))
    | cons x t =>
      have hpos : 0 < r.length := by rw [hrr]; simp
      rw [← hrr]
      rw [if_pos (show (!(iL r).isEmpty) = true by rw [hrr]; rfl)]
      have hb := best_mem (ps := ps) hpos
      obtain ⟨pl, hpl, _, hbe⟩ := firsts_mem hb
      have hbe2 : (bestFirst ps r).2 = ((pl : Nat) : Int) := by rw [hbe]
      refine ⟨fun σ H' => ∃ c4 c5, Wd K E.C_Trade [] [] H H' σ [.s pb (iL (barsL n ps)), .d (row l), .l p (iL (fo ++ [(bestFirst ps r).1])), .d (row (r.eraseIdx pl)), c4, c5], ?_, ?_⟩
      · rintro σ' H'' ⟨c4, c5, w5⟩
        have hle : (r.eraseIdx pl).length + 1 = r.length := by rw [List.length_eraseIdx_of_lt hpl]; omega
        refine ⟨(r.eraseIdx pl).length, by omega, _, _, c4, c5, w5, ?_, ?_, fun y hy => hr' y (List.mem_of_mem_eraseIdx hy), rfl⟩
        · rw [← he, List.append_assoc]
          congr 1
          unfold leastL
          rw [show r.length = (r.eraseIdx pl).length + 1 by omega]
          unfold leastGo
          rw [hbe2, Int.toNat_natCast]
          cases h : (r.eraseIdx pl).length <;> rfl
        · rw [List.length_append]
          simp
          omega
      · cases hf : firstsL ps r with
        | nil => exact absurd hf (firsts_ne hpos)
        | cons p0 rest =>
          have hbf : bestFirst ps r = minP p0 rest := by unfold bestFirst; rw [hf]
          have hdep := depth_pairs (p0 :: rest)
          have hal := pairs_alike (p0 :: rest)
          refine q_unpD (i := 4) (j := 5) (d1 := .int (bestFirst ps r).1) (d2 := .int (bestFirst ps r).2) w4 (ev_d (ev_minN (d := Pt.pairD p0) (ds := rest.map Pt.pairD) (en_cast (en_call (ea_consS (ev_var w4 rfl) (ea_cons (ev_var w4 rfl) ea_nil)) ⟨n, ps, r, hok, h0, h6, by omega, hr', rfl, rfl⟩) (by rw [hf]; rfl)) hal (Nat.le_trans hdep (by decide))) (by rw [minD_pairs, hbf]; rfl)) fun σ5 H5 w5 => ?_
          have w5' : Wd K E.C_Trade [] [] H H5 σ5 [.s pb (iL (barsL n ps)), .d (row l), .l p (iL fo), .d (row r), .d (.int (bestFirst ps r).1), .d (.int (bestFirst ps r).2)] := w5
          refine q_app w5' rfl (ev_var w5' rfl) (by rw [iL_len]; omega) fun H6 w6 => ?_
          have w6' : Wd K E.C_Trade [] [] H H6 σ5 [.s pb (iL (barsL n ps)), .d (row l), .l p (iL (fo ++ [(bestFirst ps r).1])), .d (row r), .d (.int (bestFirst ps r).1), .d (.int (bestFirst ps r).2)] := by
            rw [iL_app]
            exact w6
          refine s_asgD w6' (ev_call (ea_cons (ev_var w6' rfl) (ea_cons (ev_d (ev_var w6' rfl) (by rw [hbe2])) ea_nil)) ⟨r, pl, hpl, by omega, rfl, rfl⟩) fun σ7 H7 w7 => ⟨_, _, w7⟩
end
end K1
set_option maxRecDepth 10000000
namespace K1
open PySem PySem.Spec PyProof.Rows L2 Pt
local macro_rules
  | `(tactic| walk_at "sz") => `(tactic| first
    | omega
    | decide
    | (simp; omega)
    | (simp [iL, row, pairsD]; omega))
  | `(tactic| walk_at "ea") => `(tactic| first
    | (with_reducible exact ea_nil)
    | ((with_reducible apply ea_consL); (focus (walk_at "ev")); (focus (walk_at "ea")))
    | ((with_reducible apply ea_consS); (focus (walk_at "ev")); (focus (walk_at "ea")))
    | ((with_reducible apply ea_cons); (focus (walk_at "ev")); (focus (walk_at "ea")))
    | ((with_reducible apply ea_consN); (focus (walk_at "en")); (focus (walk_at "ea"))))
  | `(tactic| walk_at "ed") => `(tactic| first
    | (with_reducible exact ed_nil)
    | ((with_reducible apply ed_cons); (focus (walk_at "ev")); (focus (walk_at "ed"))))
  | `(tactic| walk_at "en") => `(tactic| first
    | ((with_reducible apply en_lst); (focus (walk_at "ed")); (focus (simp)))
    | ((with_reducible apply en_listT); (focus (walk_at "ev")))
    | ((with_reducible apply en_addL); (focus (walk_at "ev")); (focus (walk_at "en")); (focus (walk_at "sz")))
    | ((with_reducible apply en_addN); (focus (walk_at "en")); (focus (walk_at "en")); (focus (walk_at "sz")))
    | ((with_reducible apply en_slL); (focus (walk_at "ev")); (focus (walk_at "eo")); (focus (walk_at "eo"))))
  | `(tactic| walk_at "eo") => `(tactic| first
    | (with_reducible exact eo_none)
    | ((with_reducible apply eo_some); (focus (walk_at "ev"))))
  | `(tactic| walk_at "et") => `(tactic| first
    | (with_reducible exact et_yes)
    | ((with_reducible apply et_test); (focus (walk_at "ev")))
    | ((with_reducible apply et_B); (focus (walk_at "ev")))
    | ((with_reducible apply et_truB); (focus (walk_at "ev")))
    | ((with_reducible apply et_truT); (focus (walk_at "ev")))
    | ((with_reducible apply et_not); (focus (walk_at "et")))
    | ((with_reducible apply et_and); (focus (walk_at "et")); (focus (intro _; walk_at "et")))
    | ((with_reducible apply et_or); (focus (walk_at "et")); (focus (intro _; walk_at "et"))))
  | `(tactic| walk_at "var") => `(tactic| first
    | ((with_reducible apply ev_varD); (focus (assumption)); (focus (rfl)))
    | ((with_reducible apply ev_varL); (focus (assumption)); (focus (rfl)))
    | ((with_reducible apply ev_varS); (focus (assumption)); (focus (rfl)))
    | ((with_reducible apply ev_varT); (focus (assumption)); (focus (rfl)))
    | ((with_reducible apply ev_varH); (focus (assumption)); (focus (rfl)))
    | ((with_reducible apply ev_varZ); (focus (assumption)); (focus (rfl))))
  | `(tactic| walk_at "ev") => `(tactic| first
    | walk_at "var"
    | (with_reducible exact ev_int)
    | (with_reducible exact ev_bl)
    | (with_reducible exact ev_str)
    | (with_reducible exact ev_non)
    | ((with_reducible apply ev_letters); (focus (walk_at "ev")))
    | ((with_reducible apply ev_pairs); (focus (walk_at "ev")))
    | ((with_reducible apply ev_addI); (focus (walk_at "ev")); (focus (walk_at "ev")))
    | ((with_reducible apply ev_addT); (focus (walk_at "ev")); (focus (walk_at "ev")); (focus (walk_at "sz")))
    | ((with_reducible apply ev_i0); (focus (walk_at "ev")); (focus (walk_at "ev")); (focus (first | exact fun _ => .int _ | exact fun _ => .bl _)))
    | ((with_reducible apply ev_iC); (focus (walk_at "ev")); (focus (walk_at "ev")); (focus (first | assumption | walk_at "cond")); (focus (exact fun _ => .int _)))
    | ((with_reducible apply ev_chain); (focus (walk_at "ev")); (focus (walk_at "ev")); (focus (walk_at "ev")))
    | ((with_reducible apply ev_eqI); (focus (walk_at "ev")); (focus (walk_at "ev")))
    | ((with_reducible apply ev_neI); (focus (walk_at "ev")); (focus (walk_at "ev")))
    | ((with_reducible apply ev_eqR); (focus (walk_at "ev")); (focus (walk_at "ev")))
    | ((with_reducible apply ev_neR); (focus (walk_at "ev")); (focus (walk_at "ev")))
    | ((with_reducible apply ev_isN); (focus (walk_at "ev")))
    | ((with_reducible apply ev_notN); (focus (walk_at "ev")))
    | ((with_reducible apply ev_in2); (focus (walk_at "ev")); (focus (walk_at "ev")); (focus (walk_at "ev")))
    | ((with_reducible apply ev_inP); (focus (walk_at "ev")); (focus (walk_at "ev")))
    | ((with_reducible apply ev_tup); (focus (walk_at "ed")); (focus (simp)))
    | ((with_reducible apply ev_lenT); (focus (walk_at "ev")))
    | ((with_reducible apply ev_lenL); (focus (walk_at "ev")))
    | ((with_reducible apply ev_lenS); (focus (walk_at "ev")))
    | ((with_reducible apply ev_lenN); (focus (walk_at "en")))
    | ((with_reducible apply ev_max2); (focus (walk_at "ev")); (focus (walk_at "ev")))
    | ((with_reducible apply ev_min2); (focus (walk_at "ev")); (focus (walk_at "ev")))
    | ((with_reducible apply ev_int1); (focus (walk_at "ev")))
    | ((with_reducible apply ev_tupleL); (focus (walk_at "ev")))
    | ((with_reducible apply ev_tupleN); (focus (walk_at "en")))
    | ((with_reducible apply ev_countT); (focus (walk_at "ev")); (focus (walk_at "ev")))
    | ((with_reducible apply ev_andV); (focus (walk_at "ev")); (focus (intro _; walk_at "ev")))
    | ((with_reducible apply ev_orV); (focus (walk_at "ev")); (focus (intro _; walk_at "ev")))
    | ((with_reducible apply ev_notV); (focus (walk_at "ev"))))
section
variable {P : Program} {w : World} {K : PySem.W.Frag} {mg : Str → Option Value} {base : Heap}
def sortI (l : List Int) : List Int := l.mergeSort fun a b => decide (a ≤ b)
theorem sortedD_ints (l : List Int) : sortedD (iL l) = iL (sortI l) := by
  unfold sortedD sortI iL
  refine (List.map_mergeSort fun a _ b _ => ?_).symm
  have h := congrFun (congrFun (PySem.W.dataLe_int (β := Int) id) a) b
  exact h.symm
theorem ints_alike (l : List Int) : PySem.W.AllAlike (iL l) := fun x hx y hy => by
  obtain ⟨p, _, rfl⟩ := List.mem_map.mp hx
  obtain ⟨q, _, rfl⟩ := List.mem_map.mp hy
  simp [PySem.W.alike]
theorem ints_sortable (l : List Int) : PySem.W.Sortable (iL l) := .inr fun x hx => by
  obtain ⟨p, _, rfl⟩ := List.mem_map.mp hx
  exact ⟨by simp, by simp⟩
def restL (ps : List (Int × Int)) (l : List Int) : List Int := ((List.range l.length).filter fun p => !canFirst ps l p).map fun p => l.getD p 0
def stepL (ps : List (Int × Int)) (l : List Int) : List Int := sortI ((firstsL ps l).map (·.1))
def stepsGo (ps : List (Int × Int)) : Nat → List Int → List (List Int)
  | 0, _ => []
  | k + 1, l => if l = [] then [] else stepL ps l :: stepsGo ps k (restL ps l)
def stepsL (ps : List (Int × Int)) (l : List Int) : List (List Int) := stepsGo ps l.length l
theorem rest_lt {ps : List (Int × Int)} {l : List Int} (h : 0 < l.length) : (restL ps l).length < l.length := by
  unfold restL
  rw [List.length_map]
  have e : (List.range l.length) = 0 :: (List.range (l.length - 1)).map Nat.succ := by
    rw [← List.range_succ_eq_map]
    congr 1
    omega
  rw [e, List.filter_cons_of_neg (by simp [canFirst])]
  refine Nat.lt_of_le_of_lt (List.length_filter_le _ _) ?_
  rw [List.length_map, List.length_range]
  omega
theorem rest_mem {ps : List (Int × Int)} {l : List Int} {x : Int} (h : x ∈ restL ps l) : x ∈ l := by
  obtain ⟨p, hp, rfl⟩ := List.mem_map.mp h
  have hl := List.mem_range.mp (List.mem_filter.mp hp).1
  rw [List.getD_eq_getElem?_getD, List.getElem?_eq_getElem hl]
  exact List.getElem_mem hl
theorem place_in {ps : List (Int × Int)} {l : List Int} {p : Nat} (hp : p < l.length) : decide ((p : Int) ∈ (firstsL ps l).map (·.2)) = canFirst ps l p := by
  cases h : canFirst ps l p with
  | true =>
    refine decide_eq_true (List.mem_map.mpr ⟨(l.getD p 0, (p : Int)), List.mem_map.mpr ⟨p, List.mem_filter.mpr ⟨List.mem_range.mpr hp, h⟩, rfl⟩, rfl⟩)
  | false =>
    refine decide_eq_false fun m => ?_
    obtain ⟨q, hq, e⟩ := List.mem_map.mp m
    obtain ⟨p', _, hc, rfl⟩ := firsts_mem hq
    have : p' = p := by
      have z : ((p' : Nat) : Int) = (p : Int) := e
      omega
    subst this
    rw [h] at hc
    cases hc
theorem any_mem (k : Int) : ∀ l : List Int, (l.any fun m => decide (k = m)) = decide (k ∈ l)
  | [] => by simp
  | m :: l => by
    rw [List.any_cons, any_mem k l]
    by_cases q : k = m
    · simp [q]
    · simp [q]
theorem ev_notInL {C : Addr} {H : Hp} {σ : L2.St} {ta tb : TE} {k : Int} {p : Addr} {l : List Int} (ha : EvC K C ta σ H (.d (.int k))) (hb : EvC K C tb σ H (.l p (iL l))) : EvC K C (tOp (rIn K true) ta tb) σ H (.d (.bool (!decide (k ∈ l)))) :=
  ev_op2 ha hb fun H1 _ x y a1 a2 Q q => by
    obtain ⟨rfl, xs, s, t⟩ := a2
    rw [t.iL_of] at s
    rw [Td.int_of a1]
    refine ⟨p, _, rfl, .inl (SqL.of s), rfl, ?_, q _ H1 (Same.refl H1) ?_⟩
    · rw [List.all_map]
      exact List.all_eq_true.mpr fun _ _ => rfl
    · have z : inV (.int k) (l.map V.int) = decide (k ∈ l) := by
        unfold inV
        rw [List.any_map]
        have e1 : ∀ m : Int, eqV (.int m) (.int k) = decide (k = m) := fun m => by
          show (m == k) = decide (k = m)
          by_cases q : k = m
          · subst q; simp
          · simp [q, Ne.symm q]
        rw [show ((fun y => eqV y (.int k)) ∘ V.int) = fun m => decide (k = m) from funext e1]
        exact any_mem k l
      show Td K H1 (.bl (if true = true then _ else _)) _
      rw [if_pos rfl, z]
      exact .bl _
abbrev A_steps_of (as : List Ag) (d : PyData) : Prop := ∃ (n : Int) (ps : List (Int × Int)) (l : List Int), PairsOk n ps ∧ 0 ≤ n ∧ n ≤ 6 ∧ l.length ≤ 20 ∧ rowIn n l ∧ as = [.n (iL (barsL n ps)), .c (.d (row l))] ∧ d = .tuple ((stepsL ps l).map row)
end
end K1
set_option maxRecDepth 10000000
namespace K1
open PySem PySem.Spec PyProof.Rows L2 Pt
local macro_rules
  | `(tactic| walk_at "sz") => `(tactic| first
    | omega
    | decide
    | (simp; omega)
    | (simp [iL, row, pairsD]; omega))
  | `(tactic| walk_at "ea") => `(tactic| first
    | (with_reducible exact ea_nil)
    | ((with_reducible apply ea_consL); (focus (walk_at "ev")); (focus (walk_at "ea")))
    | ((with_reducible apply ea_consS); (focus (walk_at "ev")); (focus (walk_at "ea")))
    | ((with_reducible apply ea_cons); (focus (walk_at "ev")); (focus (walk_at "ea")))
    | ((with_reducible apply ea_consN); (focus (walk_at "en")); (focus (walk_at "ea"))))
  | `(tactic| walk_at "ed") => `(tactic| first
    | (with_reducible exact ed_nil)
    | ((with_reducible apply ed_cons); (focus (walk_at "ev")); (focus (walk_at "ed"))))
  | `(tactic| walk_at "en") => `(tactic| first
    | ((with_reducible apply en_lst); (focus (walk_at "ed")); (focus (simp)))
    | ((with_reducible apply en_listT); (focus (walk_at "ev")))
    | ((with_reducible apply en_addL); (focus (walk_at "ev")); (focus (walk_at "en")); (focus (walk_at "sz")))
    | ((with_reducible apply en_addN); (focus (walk_at "en")); (focus (walk_at "en")); (focus (walk_at "sz")))
    | ((with_reducible apply en_slL); (focus (walk_at "ev")); (focus (walk_at "eo")); (focus (walk_at "eo"))))
  | `(tactic| walk_at "eo") => `(tactic| first
    | (with_reducible exact eo_none)
    | ((with_reducible apply eo_some); (focus (walk_at "ev"))))
  | `(tactic| walk_at "et") => `(tactic| first
    | (with_reducible exact et_yes)
    | ((with_reducible apply et_test); (focus (walk_at "ev")))
    | ((with_reducible apply et_B); (focus (walk_at "ev")))
    | ((with_reducible apply et_truB); (focus (walk_at "ev")))
    | ((with_reducible apply et_truT); (focus (walk_at "ev")))
    | ((with_reducible apply et_not); (focus (walk_at "et")))
    | ((with_reducible apply et_and); (focus (walk_at "et")); (focus (intro _; walk_at "et")))
    | ((with_reducible apply et_or); (focus (walk_at "et")); (focus (intro _; walk_at "et"))))
  | `(tactic| walk_at "var") => `(tactic| first
    | ((with_reducible apply ev_varD); (focus (assumption)); (focus (rfl)))
    | ((with_reducible apply ev_varL); (focus (assumption)); (focus (rfl)))
    | ((with_reducible apply ev_varS); (focus (assumption)); (focus (rfl)))
    | ((with_reducible apply ev_varT); (focus (assumption)); (focus (rfl)))
    | ((with_reducible apply ev_varH); (focus (assumption)); (focus (rfl)))
    | ((with_reducible apply ev_varZ); (focus (assumption)); (focus (rfl))))
  | `(tactic| walk_at "ev") => `(tactic| first
    | walk_at "var"
    | (with_reducible exact ev_int)
    | (with_reducible exact ev_bl)
    | (with_reducible exact ev_str)
    | (with_reducible exact ev_non)
    | ((with_reducible apply ev_letters); (focus (walk_at "ev")))
    | ((with_reducible apply ev_pairs); (focus (walk_at "ev")))
    | ((with_reducible apply ev_addI); (focus (walk_at "ev")); (focus (walk_at "ev")))
    | ((with_reducible apply ev_addT); (focus (walk_at "ev")); (focus (walk_at "ev")); (focus (walk_at "sz")))
    | ((with_reducible apply ev_i0); (focus (walk_at "ev")); (focus (walk_at "ev")); (focus (first | exact fun _ => .int _ | exact fun _ => .bl _)))
    | ((with_reducible apply ev_iC); (focus (walk_at "ev")); (focus (walk_at "ev")); (focus (first | assumption | walk_at "cond")); (focus (exact fun _ => .int _)))
    | ((with_reducible apply ev_chain); (focus (walk_at "ev")); (focus (walk_at "ev")); (focus (walk_at "ev")))
    | ((with_reducible apply ev_eqI); (focus (walk_at "ev")); (focus (walk_at "ev")))
    | ((with_reducible apply ev_neI); (focus (walk_at "ev")); (focus (walk_at "ev")))
    | ((with_reducible apply ev_eqR); (focus (walk_at "ev")); (focus (walk_at "ev")))
    | ((with_reducible apply ev_neR); (focus (walk_at "ev")); (focus (walk_at "ev")))
    | ((with_reducible apply ev_isN); (focus (walk_at "ev")))
    | ((with_reducible apply ev_notN); (focus (walk_at "ev")))
    | ((with_reducible apply ev_in2); (focus (walk_at "ev")); (focus (walk_at "ev")); (focus (walk_at "ev")))
    | ((with_reducible apply ev_inP); (focus (walk_at "ev")); (focus (walk_at "ev")))
    | ((with_reducible apply ev_tup); (focus (walk_at "ed")); (focus (simp)))
    | ((with_reducible apply ev_lenT); (focus (walk_at "ev")))
    | ((with_reducible apply ev_lenL); (focus (walk_at "ev")))
    | ((with_reducible apply ev_lenS); (focus (walk_at "ev")))
    | ((with_reducible apply ev_lenN); (focus (walk_at "en")))
    | ((with_reducible apply ev_max2); (focus (walk_at "ev")); (focus (walk_at "ev")))
    | ((with_reducible apply ev_min2); (focus (walk_at "ev")); (focus (walk_at "ev")))
    | ((with_reducible apply ev_int1); (focus (walk_at "ev")))
    | ((with_reducible apply ev_tupleL); (focus (walk_at "ev")))
    | ((with_reducible apply ev_tupleN); (focus (walk_at "en")))
    | ((with_reducible apply ev_countT); (focus (walk_at "ev")); (focus (walk_at "ev")))
    | ((with_reducible apply ev_andV); (focus (walk_at "ev")); (focus (intro _; walk_at "ev")))
    | ((with_reducible apply ev_orV); (focus (walk_at "ev")); (focus (intro _; walk_at "ev")))
    | ((with_reducible apply ev_notV); (focus (walk_at "ev"))))
section
variable {P : Program} {w : World} {K : PySem.W.Frag} {mg : Str → Option Value} {base : Heap}
abbrev A_least (as : List Ag) (d : PyData) : Prop := ∃ (n : Int) (ps : List (Int × Int)) (l : List Int), PairsOk n ps ∧ 0 ≤ n ∧ n ≤ 6 ∧ rowOk n l ∧ as = [.c (.t n ps), .c (.d (row l))] ∧ d = row (leastL ps l)
theorem ok_least (E : Nv K mg) : FnOk P w K mg base CX0 16 E.a_least E.d_least ["trade", "row"] (spC K E.C_Trade A_least) := by
  refine E.F_least.ok sc_least (fun vs H Q _ h => ?_) (fun cdv A outer s H vs Q _ hr h => ?_)
  · obtain ⟨as, d, ha, ⟨_, _, _, _, _, _, _, rfl, _⟩, _⟩ := h
    exact ha.length
  · obtain ⟨as, d, ha, ⟨n, ps, l, hok, h0, h6, hrow, rfl, rfl⟩, q⟩ := h
    obtain ⟨v1, v2, rfl, a1, a2⟩ := ha.two
    refine ⟨_, (pss_cons (ps_expr (pe_call (ok_check_trade E) (hr.mono (by first | decide | omega)) (by rfl) E.m_check_trade E.F_check_trade.kp E.b_check_trade .nil pass0 (pa_cons (pv 0) pa_nil)))
      (pss_cons (ps_expr (pe_call (ok_check_row E) (hr.mono (by first | decide | omega)) (by rfl) E.m_check_row E.F_check_row.kp E.b_check_row .nil pass0 (pa_cons (pv 0) (pa_cons (pv 1) pa_nil))))
      (pss_one (ps_ret (pe_call (ok_least_of E) (hr.mono (by first | decide | omega)) (by rfl) E.m_least_of E.F_least_of.kp E.b_least_of .nil pass0 (pa_cons (pe_call (ok_bars_of E) (hr.mono (by first | decide | omega)) (by rfl) E.m_bars_of E.F_bars_of.kp E.b_bars_of .nil pass0 (pa_cons (pv 0) pa_nil)) (pa_cons (pv 1) pa_nil))))))), ?_⟩
    have w : Wd K E.C_Trade [] [] H H _ [.t n ps, .d (row l)] := Wd.start2 (N := N_least) a1 a2
    refine q_drop w (ev_call (by walk_at "ea") ⟨_, _, rfl, rfl⟩) fun H1 w1 => ?_
    refine q_drop w1 (ev_call (by walk_at "ea") ⟨_, _, _, hrow, rfl, rfl⟩) fun H2 w2 => ?_
    exact s_retQ w2 q (ev_call (ea_consN (en_call (ea_cons (ev_var w2 rfl) ea_nil) ⟨n, ps, h0, h6, rfl, rfl⟩) (ea_cons (ev_var w2 rfl) ea_nil)) ⟨n, ps, l, hok, h0, h6, hrow.1, hrow.2, rfl, rfl⟩)
abbrev A_steps (as : List Ag) (d : PyData) : Prop := ∃ (n : Int) (ps : List (Int × Int)) (l : List Int), PairsOk n ps ∧ 0 ≤ n ∧ n ≤ 6 ∧ rowOk n l ∧ as = [.c (.t n ps), .c (.d (row l))] ∧ d = .tuple ((stepsL ps l).map row)
end
end K1
set_option maxRecDepth 10000000
/-! least rows: what can stand first -/
namespace K1
open Pt
def Alike (ps : List (Int × Int)) (l m : List Int) : Prop := ∃ ks, Walks ps l ks m
theorem Alike.refl (ps : List (Int × Int)) (l : List Int) : Alike ps l l := ⟨[], .nil⟩
theorem Alike.trans {ps : List (Int × Int)} {l m r : List Int} (h : Alike ps l m) (g : Alike ps m r) : Alike ps l r := let ⟨_, w⟩ := h; let ⟨_, v⟩ := g; ⟨_, w.app v⟩
theorem swap_back {ps : List (Int × Int)} {l : List Int} {k : Nat} (h : okAt ps l k) : okAt ps (swapAt l k) k ∧ swapAt (swapAt l k) k = l := by
  obtain ⟨u, v, a, b, e1, e2, e3, hm⟩ := okAt_parts h
  rw [e2, e1, ← e3]
  exact okAt_of (by rw [may_comm]; exact hm)
theorem Alike.symm {ps : List (Int × Int)} {l m : List Int} (h : Alike ps l m) : Alike ps m l := by
  obtain ⟨ks, w⟩ := h
  induction w with
  | nil => exact .refl _ _
  | @cons l k ks m hk _ ih =>
    obtain ⟨h1, h2⟩ := swap_back hk
    exact ih.trans ⟨[(k : Int)], .cons h1 (by rw [h2]; exact .nil)⟩
theorem Alike.cons {ps : List (Int × Int)} {l m : List Int} (x : Int) (h : Alike ps l m) : Alike ps (x :: l) (x :: m) := by
  obtain ⟨ks, w⟩ := h
  induction w with
  | nil => exact .refl _ _
  | @cons l k ks m hk _ ih =>
    have h1 : okAt ps (x :: l) (k + 1) := by
      obtain ⟨a, b, ha, hb, hm⟩ := hk
      exact ⟨a, b, by simpa using ha, by simpa using hb, hm⟩
    have h2 : swapAt (x :: l) (k + 1) = x :: swapAt l k := by
      unfold swapAt
      simp
    refine Alike.trans ⟨[((k + 1 : Nat) : Int)], .cons h1 ?_⟩ ih
    rw [h2]
    exact .nil
theorem erase_parts {l : List Int} {p : Nat} (hp : p < l.length) : l = l.take p ++ l[p] :: l.drop (p + 1) ∧ l.eraseIdx p = l.take p ++ l.drop (p + 1) := by
  refine ⟨?_, List.eraseIdx_eq_take_drop_succ ..⟩
  rw [← List.drop_eq_getElem_cons hp, List.take_append_drop]
/-- a letter that can stand first is brought there -/
theorem first_alike {ps : List (Int × Int)} {l : List Int} {p : Nat} (hp : p < l.length) (h : canFirst ps l p = true) : Alike ps l (l.getD p 0 :: l.eraseIdx p) := by
  obtain ⟨e1, e2⟩ := erase_parts hp
  have ge : l.getD p 0 = l[p] := by rw [List.getD_eq_getElem?_getD, List.getElem?_eq_getElem hp]; rfl
  unfold canFirst at h
  rw [ge] at h ⊢
  have w := move (ps := ps) (x := l[p]) (pre := []) (l.take p) (l.drop (p + 1)) (fun y hy => List.all_eq_true.mp h y hy)
  rw [List.nil_append, List.nil_append, ← e1, ← e2] at w
  exact ⟨_, w⟩
theorem leastGo_alike {ps : List (Int × Int)} : ∀ (k : Nat) (l : List Int), l.length = k → Alike ps l (leastGo ps k l)
  | 0, l, h => by
    have e : l = [] := List.length_eq_zero_iff.mp h
    subst e
    exact .refl _ _
  | k + 1, l, h => by
    obtain ⟨p, hp, hc, hb⟩ := firsts_mem (best_mem (ps := ps) (l := l) (by omega))
    unfold leastGo
    rw [hb]
    have hl : (l.eraseIdx p).length = k := by rw [List.length_eraseIdx_of_lt hp]; omega
    exact (first_alike hp hc).trans (.cons _ (by simpa using leastGo_alike k (l.eraseIdx p) hl))
theorem least_alike (ps : List (Int × Int)) (l : List Int) : Alike ps l (leastL ps l) := leastGo_alike l.length l rfl
/-- whatever stands first in a row alike can stand first -/
theorem head_first {n : Int} {ps : List (Int × Int)} (hok : PairsOk n ps) {l m : List Int} {x : Int} (h : Alike ps l (x :: m)) : ∃ p, p < l.length ∧ l.getD p 0 = x ∧ canFirst ps l p = true ∧ Alike ps (l.eraseIdx p) m := by
  obtain ⟨ks, w⟩ := h
  have hx : x ∈ l := w.perm.mem_iff.mpr List.mem_cons_self
  obtain ⟨u, v, rfl, hu, hi, he⟩ := split_at hx
  have hp : u.length < (u ++ x :: v).length := by rw [List.length_append, List.length_cons]; omega
  have hg : (u ++ x :: v)[u.length] = x := by rw [List.getElem_append_right (Nat.le_refl _)]; simp
  have hg' : (u ++ x :: v).getD u.length 0 = x := by rw [List.getD_eq_getElem?_getD, List.getElem?_eq_getElem hp, hg]; rfl
  have hm : ∀ y ∈ u, may ps y x = true := fun y my => by
    cases q : may ps y x with
    | true => rfl
    | false =>
      exfalso
      have e := w.only hok q
      rw [only_app, only_in (.inr rfl), only_in (.inr rfl)] at e
      have hy : y ∈ onlyL u y x := List.mem_filter.mpr ⟨my, by simp⟩
      cases z : onlyL u y x with
      | nil => rw [z] at hy; cases hy
      | cons w' t =>
        rw [z] at e
        have e1 : w' = x := by simpa using (List.cons.inj e).1
        have : w' ∈ u := (List.mem_filter.mp (show w' ∈ onlyL u y x by rw [z]; exact List.mem_cons_self)).1
        exact hu (e1 ▸ this)
  have hc : canFirst ps (u ++ x :: v) u.length = true := by
    unfold canFirst
    rw [hg', List.take_left]
    exact List.all_eq_true.mpr hm
  have hE : (u ++ x :: v).eraseIdx u.length = u ++ v := by
    rw [List.eraseIdx_eq_take_drop_succ, List.take_left]
    congr 1
    rw [show u ++ x :: v = (u ++ [x]) ++ v by simp, show u.length + 1 = (u ++ [x]).length by simp, List.drop_left]
  refine ⟨u.length, hp, hg', hc, ?_⟩
  -- both behind x: the free pairs stand alike
  have hpm : (u ++ v).Perm m := by
    have := w.perm.erase x
    rw [he, List.erase_cons_head] at this
    exact this
  have hf : Free ps (u ++ v) m := fun a b ne q => by
    have e := w.only hok q
    rw [only_app] at e
    rw [only_app]
    by_cases hxab : x = a ∨ x = b
    · rw [only_in hxab, only_in hxab] at e
      cases z : onlyL u a b with
      | nil => rw [z] at e; simpa using e
      | cons w' t =>
        rw [z] at e
        have e1 : w' = x := by simpa using (List.cons.inj e).1
        have : w' ∈ u := (List.mem_filter.mp (show w' ∈ onlyL u a b by rw [z]; exact List.mem_cons_self)).1
        exact absurd (e1 ▸ this) hu
    · rw [only_out hxab, only_out hxab] at e
      exact e
  rw [hE]
  exact ⟨_, lead_walks m (u ++ v) [] hpm hf⟩
theorem first_once {n : Int} {ps : List (Int × Int)} (hok : PairsOk n ps) {l : List Int} {p q : Nat} (hp : p < l.length) (hq : q < l.length) (h1 : canFirst ps l p = true) (h2 : canFirst ps l q = true) (e : l.getD p 0 = l.getD q 0) : p = q := by
  have key : ∀ {p q : Nat}, p < q → q < l.length → canFirst ps l q = true → l.getD p 0 = l.getD q 0 → False := fun {p q} hlt hq h e => by
    have hp : p < l.length := by omega
    have m : l.getD p 0 ∈ l.take q := by
      rw [List.getD_eq_getElem?_getD, List.getElem?_eq_getElem hp]
      exact List.mem_take_iff_getElem.mpr ⟨p, by omega, rfl⟩
    have z := List.all_eq_true.mp h _ m
    rw [e] at z
    exact may_ne hok z rfl
  rcases Nat.lt_trichotomy p q with z | z | z
  · exact (key z hq h2 e).elim
  · exact z
  · exact (key z hp h1 e.symm).elim
theorem best_le {ps : List (Int × Int)} {l : List Int} {q : Int × Int} (h : q ∈ firstsL ps l) : ltB q (bestFirst ps l) = false := by
  unfold bestFirst
  cases e : firstsL ps l with
  | nil => rw [e] at h; cases h
  | cons p r => rw [e] at h; exact minP_le r p q h
theorem leastGo_le {n : Int} {ps : List (Int × Int)} (hok : PairsOk n ps) : ∀ (k : Nat) (l m : List Int), l.length = k → Alike ps l m → leastGo ps k l ≤ m
  | 0, l, m, h, _ => by
    show leastGo ps 0 l ≤ m
    unfold leastGo
    exact List.nil_le m
  | k + 1, l, m, h, ha => by
    have hlm : l.length = m.length := let ⟨_, w⟩ := ha; w.perm.length_eq
    cases m with
    | nil =>
      rw [h] at hlm
      cases hlm
    | cons x m =>
      obtain ⟨p, hp, hx, hc, hr⟩ := head_first hok ha
      obtain ⟨b, hb, hbc, hbe⟩ := firsts_mem (best_mem (ps := ps) (l := l) (by omega))
      have m1 : (l.getD p 0, (p : Int)) ∈ firstsL ps l := List.mem_map.mpr ⟨p, List.mem_filter.mpr ⟨List.mem_range.mpr hp, hc⟩, rfl⟩
      have le := best_le m1
      unfold leastGo
      rw [hbe] at le ⊢
      unfold ltB at le
      simp only [decide_eq_false_iff_not] at le
      rw [List.cons_le_cons_iff]
      by_cases e : l.getD b 0 = x
      · refine .inr ⟨e, ?_⟩
        have ep := first_once hok hb hp hbc hc (e.trans hx.symm)
        subst ep
        have hl : (l.eraseIdx b).length = k := by rw [List.length_eraseIdx_of_lt hb]; omega
        simpa using leastGo_le hok k (l.eraseIdx b) m hl hr
      · refine .inl ?_
        show l.getD b 0 < x
        omega
theorem least_le {n : Int} {ps : List (Int × Int)} (hok : PairsOk n ps) {l m : List Int} (h : Alike ps l m) : leastL ps l ≤ m := leastGo_le hok l.length l m rfl h
/-- least rows are the same of all rows alike -/
theorem least_same {n : Int} {ps : List (Int × Int)} (hok : PairsOk n ps) {l m : List Int} (h : Alike ps l m) : leastL ps l = leastL ps m :=
  List.le_antisymm (least_le hok (h.trans (least_alike ps m))) (least_le hok (h.symm.trans (least_alike ps l)))
end K1
set_option maxRecDepth 10000000
/-! steps -/
namespace K1
open Pt
theorem alike_iff {n : Int} {ps : List (Int × Int)} (hok : PairsOk n ps) {l m : List Int} : Alike ps l m ↔ l.Perm m ∧ Free ps l m :=
  ⟨fun ⟨_, w⟩ => ⟨w.perm, fun a b _ q => w.only hok q⟩, fun ⟨hp, hf⟩ => ⟨_, lead_walks m l [] hp hf⟩⟩
theorem all_getD (l : List Int) : (List.range l.length).map (fun p => l.getD p 0) = l := by
  refine List.ext_getElem? fun k => ?_
  rw [List.getElem?_map]
  by_cases h : k < l.length
  · rw [List.getElem?_range h, List.getElem?_eq_getElem h]
    simp only [Option.map_some]
    rw [List.getD_eq_getElem?_getD, List.getElem?_eq_getElem h]
    rfl
  · rw [List.getElem?_eq_none (by rw [List.length_range]; omega), List.getElem?_eq_none (by omega)]
    rfl
theorem firsts_letters (ps : List (Int × Int)) (l : List Int) : (firstsL ps l).map (·.1) = ((List.range l.length).filter (canFirst ps l)).map fun p => l.getD p 0 := by
  unfold firstsL
  rw [List.map_map]
  rfl
theorem only_map (ks : List Nat) (l : List Int) (a b : Int) : onlyL (ks.map fun p => l.getD p 0) a b = (ks.filter fun p => decide (l.getD p 0 = a ∨ l.getD p 0 = b)).map fun p => l.getD p 0 := by
  unfold onlyL
  rw [List.filter_map]
  rfl
theorem step_alike {n : Int} {ps : List (Int × Int)} (hok : PairsOk n ps) (l : List Int) : Alike ps l (stepL ps l ++ restL ps l) := by
  rw [alike_iff hok]
  have hs : (stepL ps l).Perm ((firstsL ps l).map (·.1)) := List.mergeSort_perm _ _
  rw [firsts_letters] at hs
  refine ⟨?_, fun a b ne q => ?_⟩
  · have h1 := (List.filter_append_perm (canFirst ps l) (List.range l.length)).map fun p => l.getD p 0
    rw [all_getD, List.map_append] at h1
    refine List.Perm.trans h1.symm ?_
    exact List.Perm.append_right _ hs.symm
  · have far : ∀ {x y : Nat}, x < y → y < l.length → (l.getD x 0 = a ∨ l.getD x 0 = b) → (l.getD y 0 = a ∨ l.getD y 0 = b) → canFirst ps l y = false := fun {x y} hxy hy h1 h2 => by
      cases h : canFirst ps l y with
      | false => rfl
      | true =>
        exfalso
        have hx : x < l.length := by omega
        have m : l.getD x 0 ∈ l.take y := by
          rw [List.getD_eq_getElem?_getD, List.getElem?_eq_getElem hx]
          exact List.mem_take_iff_getElem.mpr ⟨x, by omega, rfl⟩
        have z := List.all_eq_true.mp h _ m
        have nz := may_ne hok z
        have : may ps a b = true := by
          rcases h1 with e1 | e1 <;> rcases h2 with e2 | e2 <;> rw [e1, e2] at z nz
          · exact absurd rfl nz
          · exact z
          · rw [may_comm]; exact z
          · exact absurd rfl nz
        rw [q] at this
        cases this
    have eo : onlyL l a b = ((List.range l.length).filter fun p => decide (l.getD p 0 = a ∨ l.getD p 0 = b)).map fun p => l.getD p 0 := by
      have z := only_map (List.range l.length) l a b
      rw [all_getD] at z
      exact z
    have er : onlyL (restL ps l) a b = (((List.range l.length).filter fun p => decide (l.getD p 0 = a ∨ l.getD p 0 = b)).filter fun p => !canFirst ps l p).map fun p => l.getD p 0 := by
      unfold restL
      rw [only_map, List.filter_filter, List.filter_filter]
      congr 2
      funext p
      rw [Bool.and_comm]
    have ep : (onlyL (stepL ps l) a b).Perm ((((List.range l.length).filter fun p => decide (l.getD p 0 = a ∨ l.getD p 0 = b)).filter (canFirst ps l)).map fun p => l.getD p 0) := by
      have z := hs.filter fun x => decide (x = a ∨ x = b)
      have z2 := only_map ((List.range l.length).filter (canFirst ps l)) l a b
      unfold onlyL at z2
      rw [z2, List.filter_filter] at z
      refine List.Perm.trans z (List.Perm.of_eq ?_)
      rw [List.filter_filter]
      congr 2
      funext p
      rw [Bool.and_comm]
    have hsort : ((List.range l.length).filter fun p => decide (l.getD p 0 = a ∨ l.getD p 0 = b)).Pairwise (· < ·) := (List.pairwise_lt_range).sublist (List.filter_sublist ..)
    have hall : ∀ p ∈ (List.range l.length).filter fun p => decide (l.getD p 0 = a ∨ l.getD p 0 = b), p < l.length ∧ (l.getD p 0 = a ∨ l.getD p 0 = b) := fun p hp => ⟨List.mem_range.mp (List.mem_filter.mp hp).1, of_decide_eq_true (List.mem_filter.mp hp).2⟩
    rw [only_app, er, eo]
    generalize ((List.range l.length).filter fun p => decide (l.getD p 0 = a ∨ l.getD p 0 = b)) = T at ep hsort hall
    cases T with
    | nil =>
      have e : onlyL (stepL ps l) a b = [] := List.Perm.eq_nil ep
      rw [e]
      rfl
    | cons t T =>
      have ht := hall t List.mem_cons_self
      have hT : ∀ x ∈ T, canFirst ps l x = false := fun x hx => far ((List.pairwise_cons.mp hsort).1 x hx) (hall x (List.mem_cons_of_mem _ hx)).1 ht.2 (hall x (List.mem_cons_of_mem _ hx)).2
      have f1 : T.filter (canFirst ps l) = [] := List.filter_eq_nil_iff.mpr fun x hx => by rw [hT x hx]; exact Bool.false_ne_true
      have f2 : T.filter (fun p => !canFirst ps l p) = T := List.filter_eq_self.mpr fun x hx => by rw [hT x hx]; rfl
      cases hc : canFirst ps l t with
      | true =>
        rw [List.filter_cons_of_pos hc, f1] at ep
        have e : onlyL (stepL ps l) a b = [l.getD t 0] := List.perm_singleton.mp ep
        rw [e, List.filter_cons_of_neg (by simp [hc]), f2]
        rfl
      | false =>
        rw [List.filter_cons_of_neg (by simp [hc]), f1] at ep
        have e : onlyL (stepL ps l) a b = [] := List.Perm.eq_nil ep
        rw [e, List.filter_cons_of_pos (by simp [hc]), f2]
        rfl
theorem Alike.app {ps : List (Int × Int)} {l m : List Int} (h : Alike ps l m) : ∀ u : List Int, Alike ps (u ++ l) (u ++ m)
  | [] => h
  | x :: u => (h.app u).cons x
/-- the steps put together are alike to the row -/
theorem stepsGo_alike {n : Int} {ps : List (Int × Int)} (hok : PairsOk n ps) : ∀ (k : Nat) (l : List Int), l.length ≤ k → Alike ps l (stepsGo ps k l).flatten
  | 0, l, h => by
    have e : l = [] := List.length_eq_zero_iff.mp (by omega)
    subst e
    exact .refl _ _
  | k + 1, l, h => by
    unfold stepsGo
    by_cases e : l = []
    · rw [if_pos e, e]
      exact .refl _ _
    · rw [if_neg e, List.flatten_cons]
      have hpos := List.length_pos_iff.mpr e
      have := rest_lt (ps := ps) hpos
      exact (step_alike hok l).trans ((stepsGo_alike hok k (restL ps l) (by omega)).app _)
theorem steps_alike {n : Int} {ps : List (Int × Int)} (hok : PairsOk n ps) (l : List Int) : Alike ps l (stepsL ps l).flatten := stepsGo_alike hok l.length l (Nat.le_refl _)
theorem app_cancel {n : Int} {ps : List (Int × Int)} (hok : PairsOk n ps) {u l m : List Int} (h : Alike ps (u ++ l) (u ++ m)) : Alike ps l m := by
  rw [alike_iff hok] at h ⊢
  refine ⟨(List.perm_append_left_iff u).mp h.1, fun a b ne q => ?_⟩
  have e := h.2 a b ne q
  rw [only_app, only_app] at e
  exact List.append_cancel_left e
theorem first_letter_iff {n : Int} {ps : List (Int × Int)} (hok : PairsOk n ps) {l : List Int} {x : Int} : x ∈ (firstsL ps l).map (·.1) ↔ ∃ m, Alike ps l (x :: m) := by
  constructor
  · intro h
    obtain ⟨q, hq, rfl⟩ := List.mem_map.mp h
    obtain ⟨p, hp, hc, rfl⟩ := firsts_mem hq
    exact ⟨_, first_alike hp hc⟩
  · rintro ⟨m, h⟩
    obtain ⟨p, hp, hx, hc, _⟩ := head_first hok h
    exact List.mem_map.mpr ⟨(l.getD p 0, (p : Int)), List.mem_map.mpr ⟨p, List.mem_filter.mpr ⟨List.mem_range.mpr hp, hc⟩, rfl⟩, hx⟩
theorem firsts_nodup {n : Int} {ps : List (Int × Int)} (hok : PairsOk n ps) (l : List Int) : ((firstsL ps l).map (·.1)).Nodup := by
  rw [firsts_letters]
  unfold List.Nodup
  rw [List.pairwise_map]
  refine List.Pairwise.imp_of_mem (R := (· < ·)) ?_ ((List.pairwise_lt_range).sublist (List.filter_sublist ..))
  intro p q hp hq hlt e
  obtain ⟨p1, p2⟩ := List.mem_filter.mp hp
  obtain ⟨q1, q2⟩ := List.mem_filter.mp hq
  have := first_once hok (List.mem_range.mp p1) (List.mem_range.mp q1) p2 q2 e
  omega
theorem sortI_sorted (l : List Int) : (sortI l).Pairwise (· ≤ ·) := by
  have h := List.pairwise_mergeSort (le := fun a b : Int => decide (a ≤ b)) (fun a b c h1 h2 => by simp at *; omega) (fun a b => by simp; omega) l
  exact h.imp fun h => of_decide_eq_true h
theorem stepL_strict {n : Int} {ps : List (Int × Int)} (hok : PairsOk n ps) (l : List Int) : (stepL ps l).Pairwise (· < ·) := by
  have h1 := sortI_sorted ((firstsL ps l).map (·.1))
  have h2 : (stepL ps l).Nodup := (List.mergeSort_perm _ _).symm.nodup (firsts_nodup hok l)
  exact (h1.and h2).imp fun ⟨a, b⟩ => by omega
theorem strict_ext : ∀ {l m : List Int}, l.Pairwise (· < ·) → m.Pairwise (· < ·) → (∀ x, x ∈ l ↔ x ∈ m) → l = m
  | [], [], _, _, _ => rfl
  | [], y :: m, _, _, h => by have := (h y).mpr List.mem_cons_self; cases this
  | x :: l, [], _, _, h => by have := (h x).mp List.mem_cons_self; cases this
  | x :: l, y :: m, hl, hm, h => by
    have l1 := List.pairwise_cons.mp hl
    have m1 := List.pairwise_cons.mp hm
    have e : x = y := by
      rcases List.mem_cons.mp ((h x).mp List.mem_cons_self) with z | z
      · exact z
      · rcases List.mem_cons.mp ((h y).mpr List.mem_cons_self) with z2 | z2
        · exact z2.symm
        · have := m1.1 x z
          have := l1.1 y z2
          omega
    subst e
    congr 1
    refine strict_ext l1.2 m1.2 fun z => ⟨fun hz => ?_, fun hz => ?_⟩
    · rcases List.mem_cons.mp ((h z).mp (List.mem_cons_of_mem _ hz)) with q | q
      · have := l1.1 z hz
        omega
      · exact q
    · rcases List.mem_cons.mp ((h z).mpr (List.mem_cons_of_mem _ hz)) with q | q
      · have := m1.1 z hz
        omega
      · exact q
theorem mem_step (ps : List (Int × Int)) (l : List Int) (x : Int) : x ∈ stepL ps l ↔ x ∈ (firstsL ps l).map (·.1) := (List.mergeSort_perm _ _).mem_iff
theorem step_same {n : Int} {ps : List (Int × Int)} (hok : PairsOk n ps) {l m : List Int} (h : Alike ps l m) : stepL ps l = stepL ps m := by
  refine strict_ext (stepL_strict hok l) (stepL_strict hok m) fun x => ?_
  rw [mem_step, mem_step, first_letter_iff hok, first_letter_iff hok]
  exact ⟨fun ⟨r, w⟩ => ⟨r, h.symm.trans w⟩, fun ⟨r, w⟩ => ⟨r, h.trans w⟩⟩
theorem rest_same {n : Int} {ps : List (Int × Int)} (hok : PairsOk n ps) {l m : List Int} (h : Alike ps l m) : Alike ps (restL ps l) (restL ps m) := by
  have z := ((step_alike hok l).symm.trans h).trans (step_alike hok m)
  rw [step_same hok h] at z
  exact app_cancel hok z
/-- steps of rows alike are the same -/
theorem stepsGo_same {n : Int} {ps : List (Int × Int)} (hok : PairsOk n ps) : ∀ (k : Nat) (l m : List Int), Alike ps l m → stepsGo ps k l = stepsGo ps k m
  | 0, _, _, _ => rfl
  | k + 1, l, m, h => by
    have e : l = [] ↔ m = [] := by
      obtain ⟨_, w⟩ := h
      have := w.perm.length_eq
      rw [← List.length_eq_zero_iff, ← List.length_eq_zero_iff, this]
    unfold stepsGo
    by_cases q : l = []
    · rw [if_pos q, if_pos (e.mp q)]
    · rw [if_neg q, if_neg (fun z => q (e.mpr z)), step_same hok h, stepsGo_same hok k _ _ (rest_same hok h)]
theorem steps_same {n : Int} {ps : List (Int × Int)} (hok : PairsOk n ps) {l m : List Int} (h : Alike ps l m) : stepsL ps l = stepsL ps m := by
  unfold stepsL
  have e : l.length = m.length := let ⟨_, w⟩ := h; w.perm.length_eq
  rw [e]
  exact stepsGo_same hok _ _ _ h
end K1
set_option maxRecDepth 10000000
/-! all rows alike, in order; how many -/
namespace K1
open Pt
def sortP (l : List (Int × Int)) : List (Int × Int) := l.mergeSort fun p q => decide (p.1 < q.1 ∨ (p.1 = q.1 ∧ p.2 ≤ q.2))
theorem sortP_perm (l : List (Int × Int)) : (sortP l).Perm l := List.mergeSort_perm _ _
theorem sortP_sorted (l : List (Int × Int)) : (sortP l).Pairwise fun p q => p.1 < q.1 ∨ (p.1 = q.1 ∧ p.2 ≤ q.2) := by
  have h := List.pairwise_mergeSort (le := fun p q : Int × Int => decide (p.1 < q.1 ∨ (p.1 = q.1 ∧ p.2 ≤ q.2))) (fun a b c h1 h2 => by simp at *; omega) (fun a b => by simp; omega) l
  exact h.imp fun h => of_decide_eq_true h
/-- the letters of the sorted first letters rise -/
theorem fs_strict {n : Int} {ps : List (Int × Int)} (hok : PairsOk n ps) (l : List Int) : (sortP (firstsL ps l)).Pairwise fun p q => p.1 < q.1 := by
  have h1 := sortP_sorted (firstsL ps l)
  have h2 : ((sortP (firstsL ps l)).map (·.1)).Nodup := ((sortP_perm _).map (·.1)).symm.nodup (firsts_nodup hok l)
  unfold List.Nodup at h2
  rw [List.pairwise_map] at h2
  exact (h1.and h2).imp fun ⟨a, b⟩ => by omega
def listGo (ps : List (Int × Int)) : Nat → List Int → List (List Int)
  | 0, _ => [[]]
  | k + 1, l => if l = [] then [[]] else ((sortP (firstsL ps l)).map fun q => (listGo ps k (l.eraseIdx q.2.toNat)).map (q.1 :: ·)).flatten
theorem mem_fs {ps : List (Int × Int)} {l : List Int} {q : Int × Int} (h : q ∈ sortP (firstsL ps l)) : ∃ p : Nat, p < l.length ∧ canFirst ps l p = true ∧ q = (l.getD p 0, (p : Int)) := firsts_mem ((sortP_perm _).mem_iff.mp h)
theorem mem_listGo {n : Int} {ps : List (Int × Int)} (hok : PairsOk n ps) : ∀ (k : Nat) (l m : List Int), l.length ≤ k → (m ∈ listGo ps k l ↔ Alike ps l m)
  | 0, l, m, h => by
    have e : l = [] := List.length_eq_zero_iff.mp (by omega)
    subst e
    unfold listGo
    rw [List.mem_singleton]
    exact ⟨fun e => by rw [e]; exact .refl _ _, fun ⟨_, w⟩ => List.Perm.eq_nil w.perm.symm⟩
  | k + 1, l, m, h => by
    unfold listGo
    by_cases e : l = []
    · subst e
      rw [if_pos rfl, List.mem_singleton]
      exact ⟨fun e => by rw [e]; exact .refl _ _, fun ⟨_, w⟩ => List.Perm.eq_nil w.perm.symm⟩
    · rw [if_neg e]
      constructor
      · intro hm
        obtain ⟨L, hL, hm⟩ := List.mem_flatten.mp hm
        obtain ⟨q, hq, rfl⟩ := List.mem_map.mp hL
        obtain ⟨r, hr, rfl⟩ := List.mem_map.mp hm
        obtain ⟨p, hp, hc, rfl⟩ := mem_fs hq
        have hl : (l.eraseIdx p).length ≤ k := by rw [List.length_eraseIdx_of_lt hp]; omega
        have := (mem_listGo hok k (l.eraseIdx p) r hl).mp (by simpa using hr)
        exact (first_alike hp hc).trans (this.cons _)
      · intro ha
        cases m with
        | nil =>
          obtain ⟨_, w⟩ := ha
          exact absurd (List.Perm.eq_nil w.perm) e
        | cons x m =>
          obtain ⟨p, hp, hx, hc, hr⟩ := head_first hok ha
          have hl : (l.eraseIdx p).length ≤ k := by rw [List.length_eraseIdx_of_lt hp]; omega
          have m1 : (l.getD p 0, (p : Int)) ∈ sortP (firstsL ps l) := (sortP_perm _).mem_iff.mpr (List.mem_map.mpr ⟨p, List.mem_filter.mpr ⟨List.mem_range.mpr hp, hc⟩, rfl⟩)
          refine List.mem_flatten.mpr ⟨_, List.mem_map.mpr ⟨_, m1, rfl⟩, List.mem_map.mpr ⟨m, ?_, by rw [hx]⟩⟩
          exact (mem_listGo hok k _ m (by simpa using hl)).mpr (by simpa using hr)
/-- they stand in order -/
theorem listGo_sorted {n : Int} {ps : List (Int × Int)} (hok : PairsOk n ps) : ∀ (k : Nat) (l : List Int), (listGo ps k l).Pairwise (· < ·)
  | 0, l => by unfold listGo; exact List.pairwise_singleton _ _
  | k + 1, l => by
    unfold listGo
    by_cases e : l = []
    · rw [if_pos e]; exact List.pairwise_singleton _ _
    · rw [if_neg e, List.pairwise_flatten]
      refine ⟨fun L hL => ?_, ?_⟩
      · obtain ⟨q, _, rfl⟩ := List.mem_map.mp hL
        rw [List.pairwise_map]
        exact (listGo_sorted hok k _).imp fun h => List.cons_lt_cons_iff.mpr (.inr ⟨rfl, h⟩)
      · rw [List.pairwise_map]
        refine (fs_strict hok l).imp fun {p q} hpq x hx y hy => ?_
        obtain ⟨x', _, rfl⟩ := List.mem_map.mp hx
        obtain ⟨y', _, rfl⟩ := List.mem_map.mp hy
        exact List.cons_lt_cons_iff.mpr (.inl hpq)
/-- how many rows are alike, by what can stand first -/
def cntGo (ps : List (Int × Int)) : Nat → List Int → Nat
  | 0, _ => 1
  | k + 1, l => if l = [] then 1 else ((firstsL ps l).map fun q => cntGo ps k (l.eraseIdx q.2.toNat)).sum
theorem cntGo_eq (ps : List (Int × Int)) : ∀ (k : Nat) (l : List Int), cntGo ps k l = (listGo ps k l).length
  | 0, l => rfl
  | k + 1, l => by
    unfold cntGo listGo
    by_cases e : l = []
    · rw [if_pos e, if_pos e]; rfl
    · rw [if_neg e, if_neg e, List.length_flatten, List.map_map]
      have h : ((List.length ∘ fun q : Int × Int => (listGo ps k (l.eraseIdx q.2.toNat)).map (q.1 :: ·))) = fun q : Int × Int => cntGo ps k (l.eraseIdx q.2.toNat) := by
        funext q
        show (List.map _ _).length = _
        rw [List.length_map, cntGo_eq ps k]
      rw [h]
      exact (((sortP_perm (firstsL ps l)).map _).sum_nat).symm
theorem listGo_fuel (ps : List (Int × Int)) : ∀ (k : Nat) (l : List Int), l.length ≤ k → listGo ps k l = listGo ps l.length l := by
  intro k
  induction k with
  | zero => intro l h; rw [show l.length = 0 by omega]
  | succ k ih =>
    intro l h
    cases hl : l with
    | nil => unfold listGo; rfl
    | cons x t =>
      rw [← hl]
      have e : l ≠ [] := by rw [hl]; simp
      obtain ⟨j, hj⟩ : ∃ j, l.length = j + 1 := ⟨t.length, by rw [hl]; rfl⟩
      rw [hj]
      unfold listGo
      rw [if_neg e, if_neg e]
      congr 1
      refine List.map_congr_left fun q hq => ?_
      obtain ⟨p, hp, _, rfl⟩ := mem_fs hq
      have hle : (l.eraseIdx p).length = j := by rw [List.length_eraseIdx_of_lt hp]; omega
      have h1 := ih (l.eraseIdx p) (by omega)
      rw [hle] at h1
      simp only [Int.toNat_natCast]
      rw [h1]
def listL (ps : List (Int × Int)) (l : List Int) : List (List Int) := listGo ps l.length l
theorem mem_listL {n : Int} {ps : List (Int × Int)} (hok : PairsOk n ps) {l m : List Int} : m ∈ listL ps l ↔ Alike ps l m := mem_listGo hok l.length l m (Nat.le_refl _)
/-- two lists in strict order with the same members are one -/
theorem strict_uniq {α : Type} {R : α → α → Prop} (irr : ∀ a, ¬ R a a) (tr : ∀ a b c, R a b → R b c → R a c) : ∀ {l m : List α}, l.Pairwise R → m.Pairwise R → (∀ x, x ∈ l ↔ x ∈ m) → l = m
  | [], [], _, _, _ => rfl
  | [], y :: m, _, _, h => by have := (h y).mpr List.mem_cons_self; cases this
  | x :: l, [], _, _, h => by have := (h x).mp List.mem_cons_self; cases this
  | x :: l, y :: m, hl, hm, h => by
    have l1 := List.pairwise_cons.mp hl
    have m1 := List.pairwise_cons.mp hm
    have e : x = y := by
      rcases List.mem_cons.mp ((h x).mp List.mem_cons_self) with z | z
      · exact z
      · rcases List.mem_cons.mp ((h y).mpr List.mem_cons_self) with z2 | z2
        · exact z2.symm
        · exact absurd (tr _ _ _ (m1.1 x z) (l1.1 y z2)) (irr y)
    subst e
    congr 1
    refine strict_uniq irr tr l1.2 m1.2 fun z => ⟨fun hz => ?_, fun hz => ?_⟩
    · rcases List.mem_cons.mp ((h z).mp (List.mem_cons_of_mem _ hz)) with q | q
      · exact absurd (q ▸ l1.1 z hz) (irr _)
      · exact q
    · rcases List.mem_cons.mp ((h z).mpr (List.mem_cons_of_mem _ hz)) with q | q
      · exact absurd (q ▸ m1.1 z hz) (irr _)
      · exact q
theorem listL_sorted {n : Int} {ps : List (Int × Int)} (hok : PairsOk n ps) (l : List Int) : (listL ps l).Pairwise (· < ·) := listGo_sorted hok _ _
theorem listL_same {n : Int} {ps : List (Int × Int)} (hok : PairsOk n ps) {l m : List Int} (h : Alike ps l m) : listL ps l = listL ps m :=
  strict_uniq (R := (· < ·)) (fun a => List.lt_irrefl a) (fun a b c => List.lt_trans) (listL_sorted hok l) (listL_sorted hok m) fun x => by
    rw [mem_listL hok, mem_listL hok]
    exact ⟨fun w => h.symm.trans w, fun w => h.trans w⟩
/-- where a row stands among blocks by first letters -/
theorem idx_blocks {L : Int × Int → List (List Int)} {q0 : Int × Int} {t : List Int} (ht : t ∈ L q0) : ∀ {S : List (Int × Int)}, S.Pairwise (fun p q => p.1 < q.1) → q0 ∈ S →
    ((S.map fun q => (L q).map (q.1 :: ·)).flatten).idxOf (q0.1 :: t) = ((S.filter fun q => decide (q.1 < q0.1)).map fun q => (L q).length).sum + (L q0).idxOf t
  | [], _, h => by cases h
  | q :: S, hs, h => by
    have h1 := List.pairwise_cons.mp hs
    rw [List.map_cons, List.flatten_cons, List.idxOf_append]
    rcases List.mem_cons.mp h with e | hq
    · subst e
      have hin : q0.1 :: t ∈ (L q0).map (q0.1 :: ·) := List.mem_map.mpr ⟨t, ht, rfl⟩
      rw [if_pos hin]
      have e0 : (q0 :: S).filter (fun q => decide (q.1 < q0.1)) = [] := List.filter_eq_nil_iff.mpr fun y hy => by
        rcases List.mem_cons.mp hy with e | hy
        · rw [e]; simp
        · have := h1.1 y hy
          simp
          omega
      rw [e0]
      simp only [List.map_nil, List.sum_nil, Nat.zero_add]
      generalize L q0 = M
      clear ht hin h hs h1 e0
      induction M with
      | nil => rfl
      | cons m M ih =>
        rw [List.map_cons, List.idxOf_cons, List.idxOf_cons, ih]
        have e : (q0.1 :: m == q0.1 :: t) = (m == t) := by
          by_cases z : m = t
          · subst z; simp
          · have z' : ¬ (q0.1 :: m = q0.1 :: t) := fun y => z (List.cons.inj y).2
            rw [beq_eq_false_iff_ne.mpr z, beq_eq_false_iff_ne.mpr z']
        rw [e]
    · have hlt := h1.1 q0 hq
      have hout : q0.1 :: t ∉ (L q).map (q.1 :: ·) := fun hm => by
        obtain ⟨r, _, e⟩ := List.mem_map.mp hm
        have := (List.cons.inj e).1
        omega
      rw [if_neg hout, idx_blocks ht h1.2 hq, List.filter_cons_of_pos (by simpa using hlt), List.map_cons, List.sum_cons, List.length_map]
      omega
/-- the number of a row -/
theorem idx_cons {n : Int} {ps : List (Int × Int)} (hok : PairsOk n ps) (x : Int) (t : List Int) : (listL ps (x :: t)).idxOf (x :: t) = ((((sortP (firstsL ps (x :: t))).filter fun q => decide (q.1 < x)).map fun q => (listL ps ((x :: t).eraseIdx q.2.toNat)).length).sum) + (listL ps t).idxOf t := by
  have hm : (x, (0 : Int)) ∈ sortP (firstsL ps (x :: t)) := (sortP_perm _).mem_iff.mpr (List.mem_map.mpr ⟨0, List.mem_filter.mpr ⟨List.mem_range.mpr (by simp), by simp [canFirst]⟩, rfl⟩)
  have e : listL ps (x :: t) = ((sortP (firstsL ps (x :: t))).map fun q => (listL ps ((x :: t).eraseIdx q.2.toNat)).map (q.1 :: ·)).flatten := by
    show listGo ps (t.length + 1) (x :: t) = _
    unfold listGo
    rw [if_neg (by simp)]
    congr 1
    refine List.map_congr_left fun q hq => ?_
    obtain ⟨p, hp, _, rfl⟩ := mem_fs hq
    have hle : ((x :: t).eraseIdx p).length = t.length := by rw [List.length_eraseIdx_of_lt hp]; simp
    simp only [Int.toNat_natCast]
    unfold listL
    rw [hle]
  rw [e]
  have ht : t ∈ listL ps ((x :: t).eraseIdx ((x, (0 : Int)) : Int × Int).2.toNat) := by
    show t ∈ listL ps t
    exact (mem_listL hok).mpr (.refl _ _)
  exact idx_blocks (L := fun q => listL ps ((x :: t).eraseIdx q.2.toNat)) ht (fs_strict hok (x :: t)) hm
end K1
set_option maxRecDepth 10000000
namespace K1
open Pt
/-! steps by their properties -/
theorem step_ne {ps : List (Int × Int)} {l : List Int} (h : l ≠ []) : stepL ps l ≠ [] := fun e => by
  have z : (stepL ps l).length = ((firstsL ps l).map (·.1)).length := List.length_mergeSort _
  rw [e, List.length_map] at z
  exact firsts_ne (List.length_pos_iff.mpr h) (List.length_eq_zero_iff.mp z.symm)
theorem step_free {n : Int} {ps : List (Int × Int)} (hok : PairsOk n ps) {l : List Int} {a b : Int} (ha : a ∈ stepL ps l) (hb : b ∈ stepL ps l) (ne : a ≠ b) : may ps a b = true := by
  have key : ∀ {p q : Nat}, p < q → q < l.length → canFirst ps l q = true → may ps (l.getD p 0) (l.getD q 0) = true := fun {p q} hlt hq h => by
    have hp : p < l.length := by omega
    have m : l.getD p 0 ∈ l.take q := by
      rw [List.getD_eq_getElem?_getD, List.getElem?_eq_getElem hp]
      exact List.mem_take_iff_getElem.mpr ⟨p, by omega, rfl⟩
    exact List.all_eq_true.mp h _ m
  rw [mem_step] at ha hb
  obtain ⟨qa, ma, rfl⟩ := List.mem_map.mp ha
  obtain ⟨qb, mb, rfl⟩ := List.mem_map.mp hb
  obtain ⟨p, hp, cp, rfl⟩ := firsts_mem ma
  obtain ⟨q, hq, cq, rfl⟩ := firsts_mem mb
  rcases Nat.lt_trichotomy p q with z | z | z
  · exact key z hq cq
  · subst z; exact absurd rfl ne
  · rw [may_comm]; exact key z hp cp
theorem may_self {n : Int} {ps : List (Int × Int)} (hok : PairsOk n ps) (a : Int) : may ps a a = false := by
  cases h : may ps a a with
  | false => rfl
  | true => exact absurd rfl (may_ne hok h)
theorem step_barred {n : Int} {ps : List (Int × Int)} (hok : PairsOk n ps) {l : List Int} {x : Int} (hx : x ∈ stepL ps (restL ps l)) : ∃ b ∈ stepL ps l, may ps x b = false := by
  rw [mem_step, first_letter_iff hok] at hx
  obtain ⟨m, hm⟩ := hx
  refine Classical.byContradiction fun no => ?_
  have all : ∀ b ∈ stepL ps l, may ps b x = true := fun b hb => by
    cases h : may ps b x with
    | true => rfl
    | false => exact absurd ⟨b, hb, by rw [may_comm]; exact h⟩ no
  have w := move (ps := ps) (x := x) (pre := []) (stepL ps l) m all
  rw [List.nil_append, List.nil_append] at w
  have a1 : Alike ps l (x :: (stepL ps l ++ m)) := ((step_alike hok l).trans (hm.app _)).trans ⟨_, w⟩
  have hin : x ∈ stepL ps l := by
    rw [mem_step, first_letter_iff hok]
    exact ⟨_, a1⟩
  have := all x hin
  rw [may_self hok] at this
  cases this
structure StepOk (ps : List (Int × Int)) (s : List Int) : Prop where
  ne : s ≠ []
  lt : s.Pairwise (· < ·)
  free : ∀ a ∈ s, ∀ b ∈ s, a ≠ b → may ps a b = true
theorem step_ok {n : Int} {ps : List (Int × Int)} (hok : PairsOk n ps) {l : List Int} (h : l ≠ []) : StepOk ps (stepL ps l) := ⟨step_ne h, stepL_strict hok l, fun a ha b hb => step_free hok ha hb⟩
theorem stepsGo_ok {n : Int} {ps : List (Int × Int)} (hok : PairsOk n ps) : ∀ (k : Nat) (l : List Int), ∀ s ∈ stepsGo ps k l, StepOk ps s
  | 0, l, s, h => by simp [stepsGo] at h
  | k + 1, l, s, h => by
    unfold stepsGo at h
    by_cases e : l = []
    · rw [if_pos e] at h; cases h
    · rw [if_neg e] at h
      rcases List.mem_cons.mp h with rfl | h
      · exact step_ok hok e
      · exact stepsGo_ok hok k _ s h
theorem stepsGo_barred {n : Int} {ps : List (Int × Int)} (hok : PairsOk n ps) : ∀ (k : Nat) (l : List Int) (j : Nat) (s t : List Int), (stepsGo ps k l)[j + 1]? = some s → (stepsGo ps k l)[j]? = some t → ∀ a ∈ s, ∃ b ∈ t, may ps a b = false
  | 0, l, j, s, t, h, _ => by simp [stepsGo] at h
  | k + 1, l, j, s, t, h, g => by
    unfold stepsGo at h g
    by_cases e : l = []
    · rw [if_pos e] at h; simp at h
    · rw [if_neg e] at h g
      rw [List.getElem?_cons_succ] at h
      cases j with
      | zero =>
        simp only [List.getElem?_cons_zero, Option.some.injEq] at g
        subst g
        cases k with
        | zero => simp [stepsGo] at h
        | succ k =>
          unfold stepsGo at h
          by_cases e2 : restL ps l = []
          · rw [if_pos e2] at h; simp at h
          · rw [if_neg e2] at h
            simp only [List.getElem?_cons_zero, Option.some.injEq] at h
            subst h
            intro a ha
            exact step_barred hok ha
      | succ j =>
        rw [List.getElem?_cons_succ] at g
        exact stepsGo_barred hok k _ j s t h g
/-! how many, numbers -/
def nL (ps : List (Int × Int)) (l : List Int) : Nat := (listL ps l).length
theorem listL_nil (ps : List (Int × Int)) : listL ps [] = [[]] := rfl
theorem listL_cons {ps : List (Int × Int)} {l : List Int} (h : l ≠ []) : listL ps l = ((sortP (firstsL ps l)).map fun q => (listL ps (l.eraseIdx q.2.toNat)).map (q.1 :: ·)).flatten := by
  obtain ⟨x, t, rfl⟩ : ∃ x t, l = x :: t := by
    cases l with
    | nil => exact absurd rfl h
    | cons x t => exact ⟨x, t, rfl⟩
  show listGo ps (t.length + 1) (x :: t) = _
  unfold listGo
  rw [if_neg (by simp)]
  congr 1
  refine List.map_congr_left fun q hq => ?_
  obtain ⟨p, hp, _, rfl⟩ := mem_fs hq
  have hle : ((x :: t).eraseIdx p).length = t.length := by rw [List.length_eraseIdx_of_lt hp]; simp
  simp only [Int.toNat_natCast]
  unfold listL
  rw [hle]
theorem nL_nil (ps : List (Int × Int)) : nL ps [] = 1 := rfl
theorem nL_sorted {ps : List (Int × Int)} {l : List Int} (h : l ≠ []) : nL ps l = ((sortP (firstsL ps l)).map fun q => nL ps (l.eraseIdx q.2.toNat)).sum := by
  unfold nL
  rw [listL_cons h, List.length_flatten, List.map_map]
  congr 1
  refine List.map_congr_left fun q _ => ?_
  show (List.map _ _).length = _
  rw [List.length_map]
theorem nL_cons {ps : List (Int × Int)} {l : List Int} (h : l ≠ []) : nL ps l = ((firstsL ps l).map fun q => nL ps (l.eraseIdx q.2.toNat)).sum := by
  rw [nL_sorted h]
  exact ((sortP_perm (firstsL ps l)).map _).sum_nat
theorem le_sum {x : Nat} : ∀ {l : List Nat}, x ∈ l → x ≤ l.sum
  | y :: l, h => by
    rw [List.sum_cons]
    rcases List.mem_cons.mp h with e | h
    · omega
    · have := le_sum h
      omega
theorem nL_pos (ps : List (Int × Int)) : ∀ (k : Nat) (l : List Int), l.length ≤ k → 0 < nL ps l
  | 0, l, h => by
    rw [List.length_eq_zero_iff.mp (show l.length = 0 by omega)]
    exact Nat.one_pos
  | k + 1, l, h => by
    by_cases e : l = []
    · rw [e]; exact Nat.one_pos
    · rw [nL_cons e]
      have hp := List.length_pos_iff.mpr e
      have m := best_mem (ps := ps) hp
      obtain ⟨p, hpl, _, he⟩ := firsts_mem m
      have hl : (l.eraseIdx p).length ≤ k := by rw [List.length_eraseIdx_of_lt hpl]; omega
      have := nL_pos ps k _ hl
      refine Nat.lt_of_lt_of_le this ?_
      have mm : nL ps (l.eraseIdx p) ∈ (firstsL ps l).map fun q => nL ps (l.eraseIdx q.2.toNat) := List.mem_map.mpr ⟨_, m, by rw [he]; rfl⟩
      exact le_sum mm
/-- how many alike rows are less, letter by letter -/
def numL (ps : List (Int × Int)) : List Int → Nat
  | [] => 0
  | x :: t => ((((firstsL ps (x :: t)).filter fun q => decide (q.1 < x)).map fun q => nL ps ((x :: t).eraseIdx q.2.toNat)).sum) + numL ps t
theorem numL_idx {n : Int} {ps : List (Int × Int)} (hok : PairsOk n ps) : ∀ l : List Int, numL ps l = (listL ps l).idxOf l
  | [] => rfl
  | x :: t => by
    unfold numL
    rw [idx_cons hok, numL_idx hok t]
    congr 1
    exact ((((sortP_perm (firstsL ps (x :: t))).filter _).map _).sum_nat).symm
/-! the row at a place -/
theorem get_blocks {L : Int × Int → List (List Int)} : ∀ (A : List (Int × Int)) (q : Int × Int) (B : List (Int × Int)) (j : Nat) (t : List Int), (L q)[j]? = some t →
    (((A ++ q :: B).map fun q => (L q).map (q.1 :: ·)).flatten)[(A.map fun q => (L q).length).sum + j]? = some (q.1 :: t)
  | [], q, B, j, t, h => by
    have hj := (List.getElem?_eq_some_iff.mp h).1
    simp only [List.nil_append, List.map_cons, List.flatten_cons, List.map_nil, List.sum_nil, Nat.zero_add]
    rw [List.getElem?_append_left (by rw [List.length_map]; exact hj), List.getElem?_map, h]
    rfl
  | p :: A, q, B, j, t, h => by
    simp only [List.cons_append, List.map_cons, List.flatten_cons, List.sum_cons]
    rw [List.getElem?_append_right (by rw [List.length_map]; omega), List.length_map]
    have e : (L p).length + (A.map fun q => (L q).length).sum + j - (L p).length = (A.map fun q => (L q).length).sum + j := by omega
    rw [e]
    exact get_blocks A q B j t h
theorem listL_at {ps : List (Int × Int)} {l : List Int} (h : l ≠ []) {A B : List (Int × Int)} {q : Int × Int} (hs : sortP (firstsL ps l) = A ++ q :: B) {j : Nat} {t : List Int} (ht : (listL ps (l.eraseIdx q.2.toNat))[j]? = some t) :
    (listL ps l)[(A.map fun q => nL ps (l.eraseIdx q.2.toNat)).sum + j]? = some (q.1 :: t) := by
  rw [listL_cons h, hs]
  exact get_blocks (L := fun q => listL ps (l.eraseIdx q.2.toNat)) A q B j t ht
/-! sublists: how many rows can be known -/
def subs : List Int → List (List Int)
  | [] => [[]]
  | x :: t => (subs t).map (x :: ·) ++ subs t
theorem subs_len : ∀ l : List Int, (subs l).length = 2 ^ l.length
  | [] => rfl
  | x :: t => by
    unfold subs
    rw [List.length_append, List.length_map, subs_len t, List.length_cons, Nat.pow_succ]
    omega
theorem mem_subs {l m : List Int} (h : l.Sublist m) : l ∈ subs m := by
  induction h with
  | slnil => exact List.mem_singleton.mpr rfl
  | cons a _ ih => exact List.mem_append.mpr (.inr ih)
  | cons_cons a _ ih => exact List.mem_append.mpr (.inl (List.mem_map.mpr ⟨_, ih, rfl⟩))
theorem least_first {n : Int} {ps : List (Int × Int)} (hok : PairsOk n ps) (l : List Int) : (listL ps l)[0]? = some (leastL ps l) := by
  have hm : leastL ps l ∈ listL ps l := (mem_listL hok).mpr (least_alike ps l)
  have hs := listL_sorted hok l
  cases e : listL ps l with
  | nil => rw [e] at hm; cases hm
  | cons x t =>
    rw [e] at hm hs
    rcases List.mem_cons.mp hm with z | z
    · rw [z]; rfl
    · exfalso
      have h1 := (List.pairwise_cons.mp hs).1 _ z
      have hx : x ∈ listL ps l := by rw [e]; exact List.mem_cons_self
      have h2 := least_le hok ((mem_listL hok).mp hx)
      exact h2 h1
theorem idx_get {n : Int} {ps : List (Int × Int)} (hok : PairsOk n ps) {l m : List Int} (h : Alike ps l m) : (listL ps l)[(listL ps l).idxOf m]? = some m := by
  have hm := (mem_listL hok).mpr h
  rw [List.getElem?_eq_getElem (List.idxOf_lt_length_of_mem hm), List.getElem_idxOf]
theorem idx_least {n : Int} {ps : List (Int × Int)} (hok : PairsOk n ps) (l : List Int) : numL ps (leastL ps l) = 0 := by
  rw [numL_idx hok, ← listL_same hok (least_alike ps l)]
  have h := least_first hok l
  cases e : listL ps l with
  | nil => rw [e] at h; cases h
  | cons x t =>
    rw [e] at h
    have : x = leastL ps l := by simpa using h
    rw [this, List.idxOf_cons_self]
theorem least_refl {n : Int} {ps : List (Int × Int)} (hok : PairsOk n ps) (l : List Int) : ¬ l < leastL ps l := by
  exact least_le hok (Alike.refl ps l)
end K1
set_option maxRecDepth 10000000
namespace K1
open Pt
/-! beginnings: what is left behind one, the greatest that two have in common, rows cut twice -/
def isFirst (ps : List (Int × Int)) (l : List Int) (x : Int) : Prop := ∃ m, Alike ps l (x :: m)
theorem isFirst_iff {n : Int} {ps : List (Int × Int)} (hok : PairsOk n ps) {l : List Int} {x : Int} : x ∈ (firstsL ps l).map (·.1) ↔ isFirst ps l x := first_letter_iff hok
def leftL (ps : List (Int × Int)) : List Int → List Int → Option (List Int)
  | [], r => some r
  | x :: one, r => match (firstsL ps r).find? (fun q => decide (q.1 = x)) with
    | none => none
    | some q => leftL ps one (r.eraseIdx q.2.toNat)
theorem left_cons (ps : List (Int × Int)) (x : Int) (one r : List Int) : leftL ps (x :: one) r = match (firstsL ps r).find? (fun q => decide (q.1 = x)) with
    | none => none
    | some q => leftL ps one (r.eraseIdx q.2.toNat) := rfl
theorem find_first {ps : List (Int × Int)} {r : List Int} {x : Int} {q : Int × Int} (h : (firstsL ps r).find? (fun q => decide (q.1 = x)) = some q) : ∃ p : Nat, p < r.length ∧ canFirst ps r p = true ∧ r.getD p 0 = x ∧ q = (x, (p : Int)) := by
  have h1 : q.1 = x := by simpa using List.find?_some h
  obtain ⟨p, hp, hc, e⟩ := firsts_mem (List.mem_of_find?_eq_some h)
  subst e
  exact ⟨p, hp, hc, h1, by rw [← h1]⟩
theorem find_none {n : Int} {ps : List (Int × Int)} (hok : PairsOk n ps) {r : List Int} {x : Int} (h : (firstsL ps r).find? (fun q => decide (q.1 = x)) = none) : ¬ isFirst ps r x := fun z => by
  rw [← isFirst_iff hok] at z
  obtain ⟨q, hq, e⟩ := List.mem_map.mp z
  have := List.find?_eq_none.mp h q hq
  simp [e] at this
theorem left_some {ps : List (Int × Int)} : ∀ {one r s : List Int}, leftL ps one r = some s → Alike ps r (one ++ s) ∧ s.Sublist r
  | [], r, s, h => by
    obtain rfl := Option.some.inj h
    exact ⟨.refl _ _, List.Sublist.refl _⟩
  | x :: one, r, s, h => by
    rw [left_cons] at h
    cases e : (firstsL ps r).find? (fun q => decide (q.1 = x)) with
    | none => rw [e] at h; cases h
    | some q =>
      rw [e] at h
      obtain ⟨p, hp, hc, hx, rfl⟩ := find_first e
      simp only [Int.toNat_natCast] at h
      obtain ⟨h1, h2⟩ := left_some h
      have a := first_alike hp hc
      rw [hx] at a
      exact ⟨a.trans (h1.cons x), h2.trans (List.eraseIdx_sublist r p)⟩
theorem left_of {n : Int} {ps : List (Int × Int)} (hok : PairsOk n ps) : ∀ {one r s : List Int}, Alike ps r (one ++ s) → ∃ s', leftL ps one r = some s' ∧ Alike ps s' s
  | [], r, s, h => ⟨r, rfl, h⟩
  | x :: one, r, s, h => by
    obtain ⟨p, hp, hx, hc, hr⟩ := head_first hok (m := one ++ s) h
    cases e : (firstsL ps r).find? (fun q => decide (q.1 = x)) with
    | none => exact absurd ⟨_, h⟩ (find_none hok e)
    | some q =>
      obtain ⟨p', hp', hc', hx', rfl⟩ := find_first e
      obtain rfl := first_once hok hp' hp hc' hc (hx'.trans hx.symm)
      rw [left_cons, e]
      simp only [Int.toNat_natCast]
      exact left_of hok hr
theorem cons_cancel {n : Int} {ps : List (Int × Int)} (hok : PairsOk n ps) {x : Int} {l m : List Int} (h : Alike ps (x :: l) (x :: m)) : Alike ps l m := app_cancel hok (u := [x]) h
theorem Alike.appR {n : Int} {ps : List (Int × Int)} (hok : PairsOk n ps) {l m : List Int} (h : Alike ps l m) (u : List Int) : Alike ps (l ++ u) (m ++ u) := by
  rw [alike_iff hok] at h ⊢
  refine ⟨h.1.append_right u, fun a b ne q => ?_⟩
  rw [only_app, only_app, h.2 a b ne q]
theorem canFirst_app {ps : List (Int × Int)} {u v : List Int} {p : Nat} (hp : p < u.length) : canFirst ps (u ++ v) p = canFirst ps u p := by
  unfold canFirst
  rw [List.take_append_of_le_length (Nat.le_of_lt hp), List.getD_eq_getElem?_getD, List.getD_eq_getElem?_getD, List.getElem?_append_left hp]
/-- a letter that can stand first of two: of the first one, or it passes the first one -/
theorem first_app {n : Int} {ps : List (Int × Int)} (hok : PairsOk n ps) {u v : List Int} {x : Int} {m : List Int} (h : Alike ps (u ++ v) (x :: m)) :
    isFirst ps u x ∨ ((∀ y ∈ u, may ps y x = true) ∧ ∃ v', Alike ps v (x :: v') ∧ Alike ps (u ++ v') m) := by
  obtain ⟨p, hp, hx, hc, hr⟩ := head_first hok h
  by_cases hpu : p < u.length
  · left
    have e : u.getD p 0 = x := by rw [← hx, List.getD_eq_getElem?_getD, List.getD_eq_getElem?_getD, List.getElem?_append_left hpu]
    have a := first_alike (ps := ps) hpu (by rw [← canFirst_app (v := v) hpu]; exact hc)
    rw [e] at a
    exact ⟨_, a⟩
  · right
    have hl : u.length ≤ p := by omega
    rw [List.length_append] at hp
    have ex : v.getD (p - u.length) 0 = x := by rw [← hx, List.getD_eq_getElem?_getD, List.getD_eq_getElem?_getD, List.getElem?_append_right hl]
    have hall := List.all_eq_true.mp (show ((u ++ v).take p).all (fun y => may ps y ((u ++ v).getD p 0)) = true from hc)
    rw [hx, List.take_append, List.take_of_length_le hl] at hall
    have hcv : canFirst ps v (p - u.length) = true := by
      unfold canFirst
      rw [ex]
      exact List.all_eq_true.mpr fun y hy => hall y (List.mem_append.mpr (.inr hy))
    have a := first_alike (ps := ps) (show p - u.length < v.length by omega) hcv
    rw [ex] at a
    refine ⟨fun y hy => hall y (List.mem_append.mpr (.inl hy)), _, a, ?_⟩
    rw [List.eraseIdx_append_of_length_le hl] at hr
    exact hr
def noBoth (ps : List (Int × Int)) (q r : List Int) : Prop := ∀ x, isFirst ps q x → ¬ isFirst ps r x
/-- two rows cut twice (F. Levi) -/
theorem levi {n : Int} {ps : List (Int × Int)} (hok : PairsOk n ps) : ∀ (r q b d : List Int), noBoth ps q r → Alike ps (q ++ b) (r ++ d) → (∀ x ∈ q, ∀ y ∈ r, may ps x y = true) ∧ ∃ s, Alike ps b (r ++ s) ∧ Alike ps d (q ++ s)
  | [], q, b, d, _, h => ⟨fun x _ y hy => by simp at hy, b, .refl _ _, h.symm⟩
  | y :: r, q, b, d, hn, h => by
    rcases first_app hok (m := r ++ d) h with hf | ⟨hall, b1, hb, hq⟩
    · exact absurd ⟨r, .refl _ _⟩ (hn y hf)
    · have hn' : noBoth ps q r := fun x hx hx' => by
        refine hn x hx ?_
        obtain ⟨m, hm⟩ := hx'
        obtain ⟨m2, hm2⟩ := hx
        have hxq : x ∈ q := by
          obtain ⟨_, w⟩ := hm2
          exact w.perm.mem_iff.mpr List.mem_cons_self
        have hxy := hall x hxq
        have w := move (ps := ps) (x := x) (pre := []) [y] m (fun z hz => by rw [List.mem_singleton.mp hz, may_comm]; exact hxy)
        rw [List.nil_append, List.nil_append] at w
        exact ⟨y :: m, (hm.cons y).trans ⟨_, w⟩⟩
      obtain ⟨h1, s, h2, h3⟩ := levi hok r q b1 d hn' hq
      refine ⟨fun x hx z hz => ?_, s, hb.trans (h2.cons y), h3⟩
      rcases List.mem_cons.mp hz with rfl | hz
      · exact hall x hx
      · exact h1 x hx z hz
/-- the greatest beginning that two have in common is one -/
theorem gcd_uniq {n : Int} {ps : List (Int × Int)} (hok : PairsOk n ps) : ∀ (p p' q r q' r' : List Int), Alike ps (p ++ q) (p' ++ q') → Alike ps (p ++ r) (p' ++ r') → noBoth ps q r → noBoth ps q' r' → Alike ps p p'
  | [], p', q, r, q', r', h1, h2, hn, _ => by
    cases p' with
    | nil => exact .refl _ _
    | cons x t => exact absurd ⟨_, h2⟩ (hn x ⟨_, h1⟩)
  | x :: p, p', q, r, q', r', h1, h2, hn, hn' => by
    have key : isFirst ps p' x := by
      rcases first_app hok (m := p ++ q) h1.symm with hf | ⟨_, v, hv, _⟩
      · exact hf
      · rcases first_app hok (m := p ++ r) h2.symm with hf | ⟨_, v', hv', _⟩
        · exact hf
        · exact absurd ⟨_, hv'⟩ (hn' x ⟨_, hv⟩)
    obtain ⟨p1, hp1⟩ := key
    have c1 := h1.trans (hp1.appR hok q')
    have c2 := h2.trans (hp1.appR hok r')
    have := gcd_uniq hok p p1 q r q' r' (cons_cancel hok (by simpa using c1)) (cons_cancel hok (by simpa using c2)) hn hn'
    exact (this.cons x).trans hp1.symm
/-! what two have in common, by sets of first letters -/
def bothL (ps : List (Int × Int)) (a c : List Int) : List Int := ((firstsL ps a).filter fun q => decide (q.1 ∈ (firstsL ps c).map (·.1))).map (·.1)
theorem mem_both {n : Int} {ps : List (Int × Int)} (hok : PairsOk n ps) {a c : List Int} {x : Int} : x ∈ bothL ps a c ↔ isFirst ps a x ∧ isFirst ps c x := by
  rw [← isFirst_iff hok, ← isFirst_iff hok]
  unfold bothL
  rw [List.mem_map, List.mem_map]
  constructor
  · rintro ⟨q, hq, rfl⟩
    obtain ⟨h1, h2⟩ := List.mem_filter.mp hq
    exact ⟨⟨q, h1, rfl⟩, of_decide_eq_true h2⟩
  · rintro ⟨⟨q, h1, rfl⟩, h2⟩
    exact ⟨q, List.mem_filter.mpr ⟨h1, decide_eq_true h2⟩, rfl⟩
theorem both_nodup {n : Int} {ps : List (Int × Int)} (hok : PairsOk n ps) (a c : List Int) : (bothL ps a c).Nodup := by
  unfold bothL
  exact (firsts_nodup hok a).sublist ((List.filter_sublist ..).map _)
theorem both_nil {n : Int} {ps : List (Int × Int)} (hok : PairsOk n ps) {a c : List Int} (h : bothL ps a c = []) : noBoth ps a c := fun x h1 h2 => by
  have := (mem_both hok).mpr ⟨h1, h2⟩
  rw [h] at this
  cases this
theorem first_erase {n : Int} {ps : List (Int × Int)} (hok : PairsOk n ps) {a a' : List Int} {x y : Int} (h : Alike ps a (x :: a')) (hy : isFirst ps a y) (ne : y ≠ x) : isFirst ps a' y := by
  obtain ⟨m, hm⟩ := hy
  rcases first_app hok (u := [x]) (v := a') (h.symm.trans hm) with ⟨t, ht⟩ | ⟨_, v, hv, _⟩
  · exfalso
    obtain ⟨_, w⟩ := ht
    have := w.perm.mem_iff.mpr (List.mem_cons_self (a := y) (l := t))
    exact ne (List.mem_singleton.mp this)
  · exact ⟨v, hv⟩
theorem left_firsts {n : Int} {ps : List (Int × Int)} (hok : PairsOk n ps) : ∀ {F a : List Int}, F.Nodup → (∀ x ∈ F, isFirst ps a x) → ∃ s, leftL ps F a = some s
  | [], a, _, _ => ⟨a, rfl⟩
  | x :: F, a, hn, h => by
    have hn' := List.nodup_cons.mp hn
    rw [left_cons]
    cases e : (firstsL ps a).find? (fun q => decide (q.1 = x)) with
    | none => exact absurd (h x List.mem_cons_self) (find_none hok e)
    | some q =>
      obtain ⟨p, hp, hc, hx, rfl⟩ := find_first e
      simp only [Int.toNat_natCast]
      have al := first_alike hp hc
      rw [hx] at al
      exact left_firsts hok hn'.2 fun y hy => first_erase hok al (h y (List.mem_cons_of_mem _ hy)) (fun z => hn'.1 (z ▸ hy))
def divGo (ps : List (Int × Int)) : Nat → List Int → List Int → List Int → List Int × List Int × List Int
  | 0, b, a, c => (b, a, c)
  | k + 1, b, a, c => if bothL ps a c = [] then (b, a, c) else divGo ps k (b ++ bothL ps a c) ((leftL ps (bothL ps a c) a).getD []) ((leftL ps (bothL ps a c) c).getD [])
def divL (ps : List (Int × Int)) (a c : List Int) : List Int × List Int × List Int := divGo ps a.length [] a c
theorem both_left {n : Int} {ps : List (Int × Int)} (hok : PairsOk n ps) (a c : List Int) : (∃ s, leftL ps (bothL ps a c) a = some s) ∧ ∃ s, leftL ps (bothL ps a c) c = some s :=
  ⟨left_firsts hok (both_nodup hok a c) fun x hx => ((mem_both hok).mp hx).1, left_firsts hok (both_nodup hok a c) fun x hx => ((mem_both hok).mp hx).2⟩
theorem alike_len {ps : List (Int × Int)} {l m : List Int} (h : Alike ps l m) : l.length = m.length := let ⟨_, w⟩ := h; w.perm.length_eq
structure Div (ps : List (Int × Int)) (a c : List Int) (t : List Int × List Int × List Int) : Prop where
  one : Alike ps a (t.1 ++ t.2.1)
  two : Alike ps c (t.1 ++ t.2.2)
  no : noBoth ps t.2.1 t.2.2
theorem divGo_ok {n : Int} {ps : List (Int × Int)} (hok : PairsOk n ps) {A C : List Int} : ∀ (k : Nat) (b a c : List Int), a.length ≤ k → Alike ps A (b ++ a) → Alike ps C (b ++ c) → Div ps A C (divGo ps k b a c)
  | 0, b, a, c, hk, h1, h2 => by
    refine ⟨h1, h2, fun x ⟨m, hm⟩ _ => ?_⟩
    have := alike_len hm
    rw [List.length_cons] at this
    have hk' : a.length ≤ 0 := hk
    have e : (divGo ps 0 b a c).2.1 = a := rfl
    rw [e] at this
    omega
  | k + 1, b, a, c, hk, h1, h2 => by
    unfold divGo
    by_cases e : bothL ps a c = []
    · rw [if_pos e]
      exact ⟨h1, h2, both_nil hok e⟩
    · rw [if_neg e]
      obtain ⟨⟨s, hs⟩, t, ht⟩ := both_left hok a c
      rw [hs, ht]
      obtain ⟨l1, _⟩ := left_some hs
      obtain ⟨l2, _⟩ := left_some ht
      have hpos := List.length_pos_iff.mpr e
      have hl := alike_len l1
      rw [List.length_append] at hl
      refine divGo_ok hok k _ s t (by omega) ?_ ?_
      · rw [List.append_assoc]
        exact h1.trans (l1.app b)
      · rw [List.append_assoc]
        exact h2.trans (l2.app b)
theorem div_ok {n : Int} {ps : List (Int × Int)} (hok : PairsOk n ps) (a c : List Int) : Div ps a c (divL ps a c) := divGo_ok hok a.length [] a c (Nat.le_refl _) (.refl _ _) (.refl _ _)
end K1
set_option maxRecDepth 10000000
/-! letters that hang together -/
namespace K1
open PySem PySem.Spec PyProof.Rows L2 Pt
/-- F: the lots of letters of a row that hang together -/
structure Parts (ps : List (Int × Int)) (row : List Int) (F : List (Int → Bool)) : Prop where
  ne : ∀ f ∈ F, ∃ x ∈ row, f x = true
  cov : ∀ x ∈ row, ∃ f ∈ F, f x = true
  dis : F.Pairwise fun f g => ∀ x ∈ row, f x = true → g x = true → False
  clo : ∀ f ∈ F, ∀ x ∈ row, ∀ y ∈ row, f x = true → may ps x y = false → f y = true
  min : ∀ f ∈ F, ∀ T : Int → Prop, (∃ x ∈ row, f x = true ∧ T x) → (∀ x ∈ row, ∀ y ∈ row, f x = true → T x → may ps x y = false → T y) → ∀ y ∈ row, f y = true → T y
theorem alike_perm {ps : List (Int × Int)} {l m : List Int} (h : Alike ps l m) : l.Perm m := let ⟨_, wk⟩ := h; wk.perm
theorem Parts.nodup {ps : List (Int × Int)} {row : List Int} {F : List (Int → Bool)} (h : Parts ps row F) : (F.map fun f => row.filter f).Nodup := by
  unfold List.Nodup
  rw [List.pairwise_map]
  refine h.dis.imp_of_mem fun {f g} hf hg d e => ?_
  obtain ⟨x, hx, fx⟩ := h.ne f hf
  have m : x ∈ row.filter g := e ▸ List.mem_filter.mpr ⟨hx, fx⟩
  exact d x hx fx (List.mem_filter.mp m).2
theorem Parts.sub {ps : List (Int × Int)} {row : List Int} {F G : List (Int → Bool)} (h : Parts ps row F) (g : Parts ps row G) (r : List Int) (hr : r ∈ F.map fun f => row.filter f) : r ∈ G.map fun f => row.filter f := by
  obtain ⟨f, hf, rfl⟩ := List.mem_map.mp hr
  obtain ⟨x, hx, fx⟩ := h.ne f hf
  obtain ⟨u, hu, ux⟩ := g.cov x hx
  refine List.mem_map.mpr ⟨u, hu, List.filter_congr fun y hy => ?_⟩
  have a : ∀ y ∈ row, f y = true → u y = true := h.min f hf (fun y => u y = true) ⟨x, hx, fx, ux⟩ fun x hx y hy _ t b => g.clo u hu x hx y hy t b
  have b : ∀ y ∈ row, u y = true → f y = true := g.min u hu (fun y => f y = true) ⟨x, hx, ux, fx⟩ fun x hx y hy _ t b => h.clo f hf x hx y hy t b
  cases e1 : f y with
  | true => exact a y hy e1
  | false =>
    cases e2 : u y with
    | false => rfl
    | true => rw [b y hy e2] at e1; cases e1
theorem Parts.perm {ps : List (Int × Int)} {row : List Int} {F G : List (Int → Bool)} (h : Parts ps row F) (g : Parts ps row G) : (F.map fun f => row.filter f).Perm (G.map fun f => row.filter f) :=
  (List.perm_ext_iff_of_nodup h.nodup g.nodup).mpr fun r => ⟨h.sub g r, g.sub h r⟩
theorem part_alike {n : Int} {ps : List (Int × Int)} (hok : PairsOk n ps) (p : Int → Bool) {l : List Int} (h : ∀ x ∈ l, ∀ y ∈ l, p x = true → p y = false → may ps x y = true) : Alike ps l (l.filter p ++ l.filter fun x => !p x) := by
  have hp : l.Perm (l.filter p ++ l.filter fun x => !p x) := (List.filter_append_perm p l).symm
  refine (alike_iff hok).mpr ⟨hp, fun a b ne hm => ?_⟩
  by_cases ha : a ∈ l
  · by_cases hb : b ∈ l
    · rw [only_app]
      have key : p a = p b := by
        cases e1 : p a with
        | true =>
          cases e2 : p b with
          | true => rfl
          | false => rw [h a ha b hb e1 e2] at hm; cases hm
        | false =>
          cases e2 : p b with
          | false => rfl
          | true => rw [may_comm, h b hb a ha e2 e1] at hm; cases hm
      have both : ∀ x ∈ onlyL l a b, p x = p a := fun x hx => by
        have := of_decide_eq_true (List.mem_filter.mp hx).2
        rcases this with rfl | rfl
        · rfl
        · exact key.symm
      have e3 : onlyL (l.filter p) a b = (onlyL l a b).filter p := by
        unfold onlyL
        rw [List.filter_filter, List.filter_filter]
        exact List.filter_congr fun x _ => Bool.and_comm _ _
      have e4 : onlyL (l.filter fun x => !p x) a b = (onlyL l a b).filter fun x => !p x := by
        unfold onlyL
        rw [List.filter_filter, List.filter_filter]
        exact List.filter_congr fun x _ => Bool.and_comm _ _
      rw [e3, e4]
      cases e : p a with
      | true =>
        rw [List.filter_eq_self.mpr fun x hx => by rw [both x hx, e], List.filter_eq_nil_iff.mpr fun x hx => by rw [both x hx, e]; simp, List.append_nil]
      | false =>
        rw [List.filter_eq_nil_iff.mpr fun x hx => by rw [both x hx, e]; simp, List.filter_eq_self.mpr fun x hx => by rw [both x hx, e]; rfl, List.nil_append]
    · refine only_all hp (c := a) (fun x hx => ?_) (fun x hx => ?_)
      · obtain ⟨m, d⟩ := List.mem_filter.mp hx
        rcases of_decide_eq_true d with rfl | rfl
        · rfl
        · exact absurd m hb
      · obtain ⟨m, d⟩ := List.mem_filter.mp hx
        rcases of_decide_eq_true d with rfl | rfl
        · rfl
        · exact absurd (hp.mem_iff.mpr m) hb
  · refine only_all hp (c := b) (fun x hx => ?_) (fun x hx => ?_)
    · obtain ⟨m, d⟩ := List.mem_filter.mp hx
      rcases of_decide_eq_true d with rfl | rfl
      · exact absurd m ha
      · rfl
    · obtain ⟨m, d⟩ := List.mem_filter.mp hx
      rcases of_decide_eq_true d with rfl | rfl
      · exact absurd (hp.mem_iff.mpr m) ha
      · rfl
theorem lots_alike {n : Int} {ps : List (Int × Int)} (hok : PairsOk n ps) : ∀ (F : List (Int → Bool)) (l : List Int), (F.Pairwise fun f g => ∀ x ∈ l, f x = true → g x = true → False) → (∀ f ∈ F, ∀ x ∈ l, ∀ y ∈ l, f x = true → may ps x y = false → f y = true) →
    Alike ps l ((F.map fun f => l.filter f).flatten ++ l.filter fun x => F.all fun f => !f x)
  | [], l, _, _ => by
    have e : (l.filter fun x => ([] : List (Int → Bool)).all fun f => !f x) = l := List.filter_eq_self.mpr fun x _ => rfl
    rw [e]
    exact .refl _ _
  | f :: F, l, hd, hc => by
    obtain ⟨d1, d2⟩ := List.pairwise_cons.mp hd
    have h1 := part_alike hok f (l := l) fun x hx y hy fx fy => by
      cases e : may ps x y with
      | true => rfl
      | false => rw [hc f List.mem_cons_self x hx y hy fx e] at fy; cases fy
    have sub : ∀ x ∈ l.filter fun x => !f x, x ∈ l := fun x hx => (List.mem_filter.mp hx).1
    have ih := lots_alike hok F (l.filter fun x => !f x) (d2.imp fun {g u} h x hx => h x (sub x hx)) (fun g hg x hx y hy => hc g (List.mem_cons_of_mem _ hg) x (sub x hx) y (sub y hy))
    refine h1.trans ?_
    have e1 : (F.map fun g => (l.filter fun x => !f x).filter g) = F.map fun g => l.filter g := List.map_congr_left fun g hg => by
      rw [List.filter_filter]
      refine List.filter_congr fun x hx => ?_
      cases e : g x with
      | false => rfl
      | true =>
        cases e2 : f x with
        | false => rfl
        | true => exact (d1 g hg x hx e2 e).elim
    have e2 : ((l.filter fun x => !f x).filter fun x => F.all fun g => !g x) = l.filter fun x => (f :: F).all fun g => !g x := by
      rw [List.filter_filter]
      refine List.filter_congr fun x hx => ?_
      rw [List.all_cons, Bool.and_comm]
    rw [e1, e2] at ih
    rw [List.map_cons, List.flatten_cons, List.append_assoc]
    exact ih.app _
theorem Parts.alike {n : Int} {ps : List (Int × Int)} (hok : PairsOk n ps) {row : List Int} {F : List (Int → Bool)} (h : Parts ps row F) : Alike ps row (F.map fun f => row.filter f).flatten := by
  have z := lots_alike hok F row h.dis h.clo
  have e : (row.filter fun x => F.all fun f => !f x) = [] := List.filter_eq_nil_iff.mpr fun x hx => by
    obtain ⟨f, hf, fx⟩ := h.cov x hx
    intro a
    have := List.all_eq_true.mp a f hf
    rw [fx] at this
    cases this
  rw [e, List.append_nil] at z
  exact z
theorem flat_least {n : Int} {ps : List (Int × Int)} (hok : PairsOk n ps) : ∀ L : List (List Int), Alike ps L.flatten (L.map (leastL ps)).flatten
  | [] => .refl _ _
  | l :: L => by
    rw [List.map_cons, List.flatten_cons, List.flatten_cons]
    exact ((flat_least hok L).app l).trans ((least_alike ps l).appR hok _)
theorem swap_alike {n : Int} {ps : List (Int × Int)} (hok : PairsOk n ps) {u v : List Int} (h : ∀ x ∈ u, ∀ y ∈ v, may ps x y = true) : Alike ps (u ++ v) (v ++ u) := by
  have hp : (u ++ v).Perm (v ++ u) := List.perm_append_comm
  refine (alike_iff hok).mpr ⟨hp, fun a b ne hm => ?_⟩
  rw [only_app, only_app]
  by_cases h1 : onlyL u a b = []
  · rw [h1, List.append_nil, List.nil_append]
  by_cases h2 : onlyL v a b = []
  · rw [h2, List.append_nil, List.nil_append]
  obtain ⟨x, hx⟩ := List.exists_mem_of_ne_nil _ h1
  obtain ⟨y, hy⟩ := List.exists_mem_of_ne_nil _ h2
  obtain ⟨mx, dx⟩ := List.mem_filter.mp hx
  obtain ⟨my, dy⟩ := List.mem_filter.mp hy
  have hxy := h x mx y my
  have nxy : x ≠ y := may_ne hok hxy
  rcases of_decide_eq_true dx with rfl | rfl
  · rcases of_decide_eq_true dy with rfl | rfl
    · exact absurd rfl nxy
    · rw [hxy] at hm; cases hm
  · rcases of_decide_eq_true dy with rfl | rfl
    · rw [may_comm, hxy] at hm; cases hm
    · exact absurd rfl nxy
theorem perm_alike {n : Int} {ps : List (Int × Int)} (hok : PairsOk n ps) {L M : List (List Int)} (h : L.Perm M) : (L.Pairwise fun u v => ∀ x ∈ u, ∀ y ∈ v, may ps x y = true) → Alike ps L.flatten M.flatten := by
  induction h with
  | nil => exact fun _ => .refl _ _
  | cons l _ ih =>
      intro p
      rw [List.flatten_cons, List.flatten_cons]
      exact (ih (List.pairwise_cons.mp p).2).app _
  | swap u v L =>
      intro p
      rw [List.flatten_cons, List.flatten_cons, List.flatten_cons, List.flatten_cons, ← List.append_assoc, ← List.append_assoc]
      exact (swap_alike hok fun x hx y hy => (List.pairwise_cons.mp p).1 u List.mem_cons_self x hx y hy).appR hok _
  | trans h1 h2 ih1 ih2 =>
      intro p
      have p2 := (h1.pairwise_iff (fun {u v} q x hx y hy => by rw [may_comm]; exact q y hy x hx)).mp p
      exact (ih1 p).trans (ih2 p2)
theorem Parts.pair {ps : List (Int × Int)} {row : List Int} {F : List (Int → Bool)} (h : Parts ps row F) : ((F.map fun f => row.filter f).map (leastL ps)).Pairwise fun u v => ∀ x ∈ u, ∀ y ∈ v, may ps x y = true := by
  rw [List.pairwise_map, List.pairwise_map]
  refine h.dis.imp_of_mem fun {f g} hf hg d x hx y hy => ?_
  obtain ⟨m1, fx⟩ := List.mem_filter.mp ((alike_perm (least_alike ps _)).mem_iff.mpr hx)
  obtain ⟨m2, gy⟩ := List.mem_filter.mp ((alike_perm (least_alike ps _)).mem_iff.mpr hy)
  cases e : may ps x y with
  | true => rfl
  | false => exact (d y m2 (h.clo f hf x m1 y m2 fx e) gy).elim
/-- the parts' least rows in any order are alike with the row -/
theorem Parts.any {n : Int} {ps : List (Int × Int)} (hok : PairsOk n ps) {row : List Int} {F : List (Int → Bool)} (h : Parts ps row F) {M : List (List Int)} (hp : ((F.map fun f => row.filter f).map (leastL ps)).Perm M) : Alike ps row M.flatten :=
  (h.alike hok).trans ((flat_least hok _).trans (perm_alike hok hp h.pair))
/-! ### joined letter by letter -/
theorem Parts.join {n : Int} {ps : List (Int × Int)} (hok : PairsOk n ps) {pre : List Int} {F : List (Int → Bool)} (h : Parts ps pre F) (a : Int) (hit : (Int → Bool) → Bool) (hh : ∀ f ∈ F, hit f = true ↔ ∃ y ∈ pre, f y = true ∧ may ps a y = false)
    (hs : ∀ f ∈ F, f a = true → a ∈ pre) (j : Int → Bool) (hj : ∀ x, j x = true ↔ x = a ∨ ∃ f ∈ F, hit f = true ∧ f x = true) : Parts ps (pre ++ [a]) (F.filter (fun f => !hit f) ++ [j]) := by
  have self : may ps a a = false := may_self hok a
  have in_ : ∀ {x}, x ∈ pre ++ [a] ↔ x ∈ pre ∨ x = a := fun {x} => by simp
  have na : ∀ f ∈ F, hit f = false → f a = false := fun f hf e => by
    cases z : f a with
    | false => rfl
    | true => rw [(hh f hf).mpr ⟨a, hs f hf z, z, self⟩] at e; cases e
  have mo : ∀ {f}, f ∈ F.filter (fun f => !hit f) ↔ f ∈ F ∧ hit f = false := fun {f} => by rw [List.mem_filter]; simp
  have ja : j a = true := (hj a).mpr (.inl rfl)
  have uniq : ∀ f ∈ F, ∀ g ∈ F, ∀ x ∈ pre, f x = true → g x = true → hit f = true → hit g = true := fun f hf g hg x hx fx gx e => by
    obtain ⟨y, hy, fy, my⟩ := (hh f hf).mp e
    exact (hh g hg).mpr ⟨y, hy, h.min f hf (fun y => g y = true) ⟨x, hx, fx, gx⟩ (fun x hx y hy _ t b => h.clo g hg x hx y hy t b) y hy fy, my⟩
  refine ⟨fun f hf => ?_, fun x hx => ?_, ?_, fun f hf x hx y hy fx m => ?_, fun f hf T hT cT y hy fy => ?_⟩
  · rcases List.mem_append.mp hf with hf | hf
    · obtain ⟨x, hx, fx⟩ := h.ne f (mo.mp hf).1
      exact ⟨x, in_.mpr (.inl hx), fx⟩
    · rw [List.mem_singleton.mp hf]
      exact ⟨a, in_.mpr (.inr rfl), ja⟩
  · by_cases e : x = a
    · exact ⟨j, by simp, e ▸ ja⟩
    · obtain ⟨f, hf, fx⟩ := h.cov x ((in_.mp hx).resolve_right e)
      cases z : hit f with
      | false => exact ⟨f, List.mem_append.mpr (.inl (mo.mpr ⟨hf, z⟩)), fx⟩
      | true => exact ⟨j, by simp, (hj x).mpr (.inr ⟨f, hf, z, fx⟩)⟩
  · refine List.pairwise_append.mpr ⟨?_, List.pairwise_singleton _ _, fun f hf g hg x hx fx gx => ?_⟩
    · refine (h.dis.filter _).imp_of_mem fun {f g} hf hg d x hx fx gx => ?_
      rcases in_.mp hx with hx | rfl
      · exact d x hx fx gx
      · rw [na f (mo.mp hf).1 (mo.mp hf).2] at fx
        cases fx
    · rw [List.mem_singleton.mp hg] at gx
      obtain ⟨hf, z⟩ := mo.mp hf
      rcases (hj x).mp gx with rfl | ⟨u, hu, zu, ux⟩
      · rw [na f hf z] at fx; cases fx
      · rcases in_.mp hx with hx | rfl
        · rw [uniq u hu f hf x hx ux fx zu] at z; cases z
        · rw [na f hf z] at fx; cases fx
  · rcases List.mem_append.mp hf with hf | hf
    · obtain ⟨hf, z⟩ := mo.mp hf
      rcases in_.mp hx with hx | ex
      · rcases in_.mp hy with hy | ey
        · exact h.clo f hf x hx y hy fx m
        · rw [(hh f hf).mpr ⟨x, hx, fx, by rw [may_comm, ← ey]; exact m⟩] at z; cases z
      · rw [ex, na f hf z] at fx; cases fx
    · rw [List.mem_singleton.mp hf] at fx ⊢
      by_cases ey : y = a
      · rw [ey]; exact ja
      have hy := (in_.mp hy).resolve_right ey
      by_cases ex : x = a
      · obtain ⟨f, hf, fy⟩ := h.cov y hy
        exact (hj y).mpr (.inr ⟨f, hf, (hh f hf).mpr ⟨y, hy, fy, ex ▸ m⟩, fy⟩)
      have hx := (in_.mp hx).resolve_right ex
      rcases (hj x).mp fx with e | ⟨u, hu, zu, ux⟩
      · exact absurd e ex
      · exact (hj y).mpr (.inr ⟨u, hu, zu, h.clo u hu x hx y hy ux m⟩)
  · rcases List.mem_append.mp hf with hf | hf
    · obtain ⟨hf, z⟩ := mo.mp hf
      have nfa := na f hf z
      obtain ⟨x, hx, fx, tx⟩ := hT
      have hx : x ∈ pre := (in_.mp hx).resolve_right fun e => by rw [e, nfa] at fx; cases fx
      have hy : y ∈ pre := (in_.mp hy).resolve_right fun e => by rw [e, nfa] at fy; cases fy
      exact h.min f hf T ⟨x, hx, fx, tx⟩ (fun x hx y hy => cT x (in_.mpr (.inl hx)) y (in_.mpr (.inl hy))) y hy fy
    · rw [List.mem_singleton.mp hf] at hT cT fy
      -- within a joined lot
      have lot : ∀ u ∈ F, hit u = true → (∃ x ∈ pre, u x = true ∧ T x) → ∀ y ∈ pre, u y = true → T y := fun u hu zu hx => h.min u hu T hx fun x hx y hy ux tx m => cT x (in_.mpr (.inl hx)) y (in_.mpr (.inl hy)) ((hj x).mpr (.inr ⟨u, hu, zu, ux⟩)) tx m
      have ta : T a := by
        obtain ⟨x, hx, jx, tx⟩ := hT
        by_cases e : x = a
        · exact e ▸ tx
        have hx := (in_.mp hx).resolve_right e
        rcases (hj x).mp jx with e2 | ⟨u, hu, zu, ux⟩
        · exact absurd e2 e
        · obtain ⟨y, hy, uy, my⟩ := (hh u hu).mp zu
          exact cT y (in_.mpr (.inl hy)) a (in_.mpr (.inr rfl)) ((hj y).mpr (.inr ⟨u, hu, zu, uy⟩)) (lot u hu zu ⟨x, hx, ux, tx⟩ y hy uy) (by rw [may_comm]; exact my)
      by_cases e : y = a
      · exact e ▸ ta
      have hy := (in_.mp hy).resolve_right e
      rcases (hj y).mp fy with e2 | ⟨u, hu, zu, uy⟩
      · exact absurd e2 e
      · obtain ⟨x, hx, ux, mx⟩ := (hh u hu).mp zu
        exact lot u hu zu ⟨x, hx, ux, cT a (in_.mpr (.inr rfl)) x (in_.mpr (.inl hx)) ja ta mx⟩ y hy uy
theorem Parts.nil (ps : List (Int × Int)) : Parts ps [] [] := ⟨fun f h => (by cases h), fun x h => (by cases h), .nil, fun f h => (by cases h), fun f h => (by cases h)⟩
/-! ### one lot after another -/
structure Bfs (ps : List (Int × Int)) (left : List Int) (x0 : Int) (lot wait : List Int) : Prop where
  nd : lot.Nodup
  sub : ∀ x ∈ lot, x ∈ left
  wt : ∀ x ∈ wait, x ∈ lot
  h0 : x0 ∈ lot
  dn : ∀ x ∈ lot, x ∉ wait → ∀ y ∈ left, may ps x y = false → y ∈ lot
  con : ∀ T : Int → Prop, T x0 → (∀ x ∈ left, ∀ y ∈ left, T x → may ps x y = false → T y) → ∀ y ∈ lot, T y
theorem Bfs.start {ps : List (Int × Int)} {left : List Int} {x0 : Int} (h : x0 ∈ left) : Bfs ps left x0 [x0] [x0] :=
  ⟨by simp, fun x hx => by rw [List.mem_singleton.mp hx]; exact h, fun x hx => hx, by simp, fun x hx n => absurd hx n, fun T t _ y hy => by rw [List.mem_singleton.mp hy]; exact t⟩
def moreL (ps : List (Int × Int)) (left lot : List Int) (h : Int) : List Int := left.filter fun x => !decide (x ∈ lot) && !may ps h x
theorem mem_more {ps : List (Int × Int)} {left lot : List Int} {h x : Int} : x ∈ moreL ps left lot h ↔ x ∈ left ∧ x ∉ lot ∧ may ps h x = false := by
  unfold moreL
  rw [List.mem_filter]
  simp
theorem Bfs.step {ps : List (Int × Int)} {left : List Int} {x0 h : Int} {lot t : List Int} (b : Bfs ps left x0 lot (h :: t)) (nl : left.Nodup) : Bfs ps left x0 (lot ++ moreL ps left lot h) (t ++ moreL ps left lot h) := by
  refine ⟨?_, fun x hx => ?_, fun x hx => ?_, List.mem_append.mpr (.inl b.h0), fun x hx nx y hy m => ?_, fun T t0 c y hy => ?_⟩
  · exact List.nodup_append.mpr ⟨b.nd, nl.filter _, fun x hx y hy e => (mem_more.mp hy).2.1 (e ▸ hx)⟩
  · rcases List.mem_append.mp hx with hx | hx
    · exact b.sub x hx
    · exact (mem_more.mp hx).1
  · rcases List.mem_append.mp hx with hx | hx
    · exact List.mem_append.mpr (.inl (b.wt x (List.mem_cons_of_mem _ hx)))
    · exact List.mem_append.mpr (.inr hx)
  · rcases List.mem_append.mp hx with hx | hx
    · by_cases e : x = h
      · subst e
        by_cases z : y ∈ lot
        · exact List.mem_append.mpr (.inl z)
        · exact List.mem_append.mpr (.inr (mem_more.mpr ⟨hy, z, m⟩))
      · refine List.mem_append.mpr (.inl (b.dn x hx (fun z => ?_) y hy m))
        rcases List.mem_cons.mp z with z | z
        · exact e z
        · exact nx (List.mem_append.mpr (.inl z))
    · exact absurd (List.mem_append.mpr (.inr hx)) nx
  · rcases List.mem_append.mp hy with hy | hy
    · exact b.con T t0 c y hy
    · obtain ⟨h1, _, h3⟩ := mem_more.mp hy
      have hl := b.wt h List.mem_cons_self
      exact c h (b.sub h hl) y h1 (b.con T t0 c h hl) h3
theorem nodup_le {l : List Int} : ∀ {m : List Int}, m.Nodup → (∀ x ∈ m, x ∈ l) → m.length ≤ l.length := by
  intro m h s
  induction m generalizing l with
  | nil => exact Nat.zero_le _
  | cons x m ih =>
    obtain ⟨h1, h2⟩ := List.nodup_cons.mp h
    have hx := s x List.mem_cons_self
    have := ih (l := l.erase x) h2 fun y hy => (List.mem_erase_of_ne (fun e => h1 (by rw [← e]; exact hy))).mpr (s y (List.mem_cons_of_mem _ hy))
    rw [List.length_erase_of_mem hx] at this
    have hp := List.length_pos_of_mem hx
    simp only [List.length_cons]
    omega
theorem Bfs.le {ps : List (Int × Int)} {left : List Int} {x0 : Int} {lot t : List Int} (b : Bfs ps left x0 lot t) : lot.length ≤ left.length := nodup_le b.nd b.sub
abbrev inL (lot : List Int) : Int → Bool := fun x => decide (x ∈ lot)
/-- lots found so far; left: the letters of no lot -/
structure Lots (ps : List (Int × Int)) (row left : List Int) (L : List (List Int)) : Prop where
  nd : left.Nodup
  sub : ∀ x ∈ left, x ∈ row
  out : ∀ l ∈ L, ∀ x ∈ l, x ∉ left
  ne : ∀ l ∈ L, ∃ x ∈ row, x ∈ l
  cov : ∀ x ∈ row, x ∈ left ∨ ∃ l ∈ L, x ∈ l
  dis : L.Pairwise fun l m => ∀ x ∈ l, x ∈ m → False
  clo : ∀ l ∈ L, ∀ x ∈ row, ∀ y ∈ row, x ∈ l → may ps x y = false → y ∈ l
  min : ∀ l ∈ L, ∀ T : Int → Prop, (∃ x ∈ row, x ∈ l ∧ T x) → (∀ x ∈ row, ∀ y ∈ row, x ∈ l → T x → may ps x y = false → T y) → ∀ y ∈ row, y ∈ l → T y
theorem Lots.start {ps : List (Int × Int)} {row left : List Int} (nd : left.Nodup) (h : ∀ x, x ∈ left ↔ x ∈ row) : Lots ps row left [] :=
  ⟨nd, fun x hx => (h x).mp hx, fun l hl => (by cases hl), fun l hl => (by cases hl), fun x hx => .inl ((h x).mpr hx), .nil, fun l hl => (by cases hl), fun l hl => (by cases hl)⟩
theorem Lots.step {ps : List (Int × Int)} {row left : List Int} {L : List (List Int)} {x0 : Int} {lot : List Int} (h : Lots ps row left L) (b : Bfs ps left x0 lot []) : Lots ps row (left.filter fun x => !decide (x ∈ lot)) (L ++ [lot]) := by
  have dn : ∀ x ∈ lot, ∀ y ∈ left, may ps x y = false → y ∈ lot := fun x hx => b.dn x hx (by simp)
  have ml : ∀ {x}, x ∈ left.filter (fun x => !decide (x ∈ lot)) ↔ x ∈ left ∧ x ∉ lot := fun {x} => by rw [List.mem_filter]; simp
  have clo : ∀ x ∈ lot, ∀ y ∈ row, may ps x y = false → y ∈ lot := fun x hx y hy m => by
    rcases h.cov y hy with z | ⟨l, hl, yl⟩
    · exact dn x hx y z m
    · exact absurd (b.sub x hx) (h.out l hl x (h.clo l hl y hy x (h.sub x (b.sub x hx)) yl (by rw [may_comm]; exact m)))
  refine ⟨h.nd.filter _, fun x hx => h.sub x (ml.mp hx).1, fun l hl x hx z => ?_, fun l hl => ?_, fun x hx => ?_, ?_, fun l hl x hx y hy xl m => ?_, fun l hl T hT cT y hy yl => ?_⟩
  · rcases List.mem_append.mp hl with hl | hl
    · exact h.out l hl x hx (ml.mp z).1
    · rw [List.mem_singleton.mp hl] at hx
      exact (ml.mp z).2 hx
  · rcases List.mem_append.mp hl with hl | hl
    · exact h.ne l hl
    · rw [List.mem_singleton.mp hl]
      exact ⟨x0, h.sub _ (b.sub _ b.h0), b.h0⟩
  · by_cases z : x ∈ lot
    · exact .inr ⟨lot, by simp, z⟩
    · rcases h.cov x hx with q | ⟨l, hl, xl⟩
      · exact .inl (ml.mpr ⟨q, z⟩)
      · exact .inr ⟨l, List.mem_append.mpr (.inl hl), xl⟩
  · refine List.pairwise_append.mpr ⟨h.dis, List.pairwise_singleton _ _, fun l hl m hm x hx xm => ?_⟩
    rw [List.mem_singleton.mp hm] at xm
    exact h.out l hl x hx (b.sub x xm)
  · rcases List.mem_append.mp hl with hl | hl
    · exact h.clo l hl x hx y hy xl m
    · rw [List.mem_singleton.mp hl] at xl ⊢
      exact clo x xl y hy m
  · rcases List.mem_append.mp hl with hl | hl
    · exact h.min l hl T hT cT y hy yl
    · rw [List.mem_singleton.mp hl] at hT cT yl
      obtain ⟨x, hx, xl, tx⟩ := hT
      have t0 : T x0 := Classical.byContradiction fun n0 =>
        (b.con (fun z => z ∈ lot ∧ ¬ T z) ⟨b.h0, n0⟩ (fun z hz y hy ⟨zl, nz⟩ m => ⟨dn z zl y hy m, fun ty => nz (cT y (h.sub y hy) z (h.sub z hz) (dn z zl y hy m) ty (by rw [may_comm]; exact m))⟩) x xl).2 tx
      exact (b.con (fun z => z ∈ lot ∧ T z) ⟨b.h0, t0⟩ (fun z hz y hy ⟨zl, tz⟩ m => ⟨dn z zl y hy m, cT z (h.sub z hz) y (h.sub y hy) zl tz m⟩) y yl).2
theorem Lots.parts {ps : List (Int × Int)} {row : List Int} {L : List (List Int)} (h : Lots ps row [] L) : Parts ps row (L.map inL) := by
  refine ⟨fun f hf => ?_, fun x hx => ?_, ?_, fun f hf x hx y hy fx m => ?_, fun f hf T hT cT y hy fy => ?_⟩
  · obtain ⟨l, hl, rfl⟩ := List.mem_map.mp hf
    obtain ⟨x, hx, xl⟩ := h.ne l hl
    exact ⟨x, hx, decide_eq_true xl⟩
  · rcases h.cov x hx with z | ⟨l, hl, xl⟩
    · cases z
    · exact ⟨inL l, List.mem_map.mpr ⟨l, hl, rfl⟩, decide_eq_true xl⟩
  · rw [List.pairwise_map]
    exact h.dis.imp fun {l m} d x _ a b => d x (of_decide_eq_true a) (of_decide_eq_true b)
  · obtain ⟨l, hl, rfl⟩ := List.mem_map.mp hf
    exact decide_eq_true (h.clo l hl x hx y hy (of_decide_eq_true fx) m)
  · obtain ⟨l, hl, rfl⟩ := List.mem_map.mp hf
    obtain ⟨x, hx, fx, tx⟩ := hT
    exact h.min l hl T ⟨x, hx, of_decide_eq_true fx, tx⟩ (fun x hx y hy xl => cT x hx y hy (decide_eq_true xl)) y hy (of_decide_eq_true fy)
end K1
set_option maxRecDepth 10000000
namespace K1
open PySem PySem.Spec PyProof.Rows L2 Pt
local macro_rules
  | `(tactic| walk_at "sz") => `(tactic| first
    | omega
    | decide
    | (simp; omega)
    | (simp [iL, row, pairsD]; omega))
  | `(tactic| walk_at "ea") => `(tactic| first
    | (with_reducible exact ea_nil)
    | ((with_reducible apply ea_consL); (focus (walk_at "ev")); (focus (walk_at "ea")))
    | ((with_reducible apply ea_consS); (focus (walk_at "ev")); (focus (walk_at "ea")))
    | ((with_reducible apply ea_cons); (focus (walk_at "ev")); (focus (walk_at "ea")))
    | ((with_reducible apply ea_consN); (focus (walk_at "en")); (focus (walk_at "ea"))))
  | `(tactic| walk_at "ed") => `(tactic| first
    | (with_reducible exact ed_nil)
    | ((with_reducible apply ed_cons); (focus (walk_at "ev")); (focus (walk_at "ed"))))
  | `(tactic| walk_at "en") => `(tactic| first
    | ((with_reducible apply en_lst); (focus (walk_at "ed")); (focus (simp)))
    | ((with_reducible apply en_listT); (focus (walk_at "ev")))
    | ((with_reducible apply en_addL); (focus (walk_at "ev")); (focus (walk_at "en")); (focus (walk_at "sz")))
    | ((with_reducible apply en_addN); (focus (walk_at "en")); (focus (walk_at "en")); (focus (walk_at "sz")))
    | ((with_reducible apply en_slL); (focus (walk_at "ev")); (focus (walk_at "eo")); (focus (walk_at "eo"))))
  | `(tactic| walk_at "eo") => `(tactic| first
    | (with_reducible exact eo_none)
    | ((with_reducible apply eo_some); (focus (walk_at "ev"))))
  | `(tactic| walk_at "et") => `(tactic| first
    | (with_reducible exact et_yes)
    | ((with_reducible apply et_test); (focus (walk_at "ev")))
    | ((with_reducible apply et_B); (focus (walk_at "ev")))
    | ((with_reducible apply et_truB); (focus (walk_at "ev")))
    | ((with_reducible apply et_truT); (focus (walk_at "ev")))
    | ((with_reducible apply et_not); (focus (walk_at "et")))
    | ((with_reducible apply et_and); (focus (walk_at "et")); (focus (intro _; walk_at "et")))
    | ((with_reducible apply et_or); (focus (walk_at "et")); (focus (intro _; walk_at "et"))))
  | `(tactic| walk_at "var") => `(tactic| first
    | ((with_reducible apply ev_varD); (focus (assumption)); (focus (rfl)))
    | ((with_reducible apply ev_varL); (focus (assumption)); (focus (rfl)))
    | ((with_reducible apply ev_varS); (focus (assumption)); (focus (rfl)))
    | ((with_reducible apply ev_varT); (focus (assumption)); (focus (rfl)))
    | ((with_reducible apply ev_varH); (focus (assumption)); (focus (rfl)))
    | ((with_reducible apply ev_varZ); (focus (assumption)); (focus (rfl))))
  | `(tactic| walk_at "ev") => `(tactic| first
    | walk_at "var"
    | (with_reducible exact ev_int)
    | (with_reducible exact ev_bl)
    | (with_reducible exact ev_str)
    | (with_reducible exact ev_non)
    | ((with_reducible apply ev_letters); (focus (walk_at "ev")))
    | ((with_reducible apply ev_pairs); (focus (walk_at "ev")))
    | ((with_reducible apply ev_addI); (focus (walk_at "ev")); (focus (walk_at "ev")))
    | ((with_reducible apply ev_addT); (focus (walk_at "ev")); (focus (walk_at "ev")); (focus (walk_at "sz")))
    | ((with_reducible apply ev_i0); (focus (walk_at "ev")); (focus (walk_at "ev")); (focus (first | exact fun _ => .int _ | exact fun _ => .bl _)))
    | ((with_reducible apply ev_iC); (focus (walk_at "ev")); (focus (walk_at "ev")); (focus (first | assumption | walk_at "cond")); (focus (exact fun _ => .int _)))
    | ((with_reducible apply ev_chain); (focus (walk_at "ev")); (focus (walk_at "ev")); (focus (walk_at "ev")))
    | ((with_reducible apply ev_eqI); (focus (walk_at "ev")); (focus (walk_at "ev")))
    | ((with_reducible apply ev_neI); (focus (walk_at "ev")); (focus (walk_at "ev")))
    | ((with_reducible apply ev_eqR); (focus (walk_at "ev")); (focus (walk_at "ev")))
    | ((with_reducible apply ev_neR); (focus (walk_at "ev")); (focus (walk_at "ev")))
    | ((with_reducible apply ev_isN); (focus (walk_at "ev")))
    | ((with_reducible apply ev_notN); (focus (walk_at "ev")))
    | ((with_reducible apply ev_in2); (focus (walk_at "ev")); (focus (walk_at "ev")); (focus (walk_at "ev")))
    | ((with_reducible apply ev_inP); (focus (walk_at "ev")); (focus (walk_at "ev")))
    | ((with_reducible apply ev_tup); (focus (walk_at "ed")); (focus (simp)))
    | ((with_reducible apply ev_lenT); (focus (walk_at "ev")))
    | ((with_reducible apply ev_lenL); (focus (walk_at "ev")))
    | ((with_reducible apply ev_lenS); (focus (walk_at "ev")))
    | ((with_reducible apply ev_lenN); (focus (walk_at "en")))
    | ((with_reducible apply ev_max2); (focus (walk_at "ev")); (focus (walk_at "ev")))
    | ((with_reducible apply ev_min2); (focus (walk_at "ev")); (focus (walk_at "ev")))
    | ((with_reducible apply ev_int1); (focus (walk_at "ev")))
    | ((with_reducible apply ev_tupleL); (focus (walk_at "ev")))
    | ((with_reducible apply ev_tupleN); (focus (walk_at "en")))
    | ((with_reducible apply ev_countT); (focus (walk_at "ev")); (focus (walk_at "ev")))
    | ((with_reducible apply ev_andV); (focus (walk_at "ev")); (focus (intro _; walk_at "ev")))
    | ((with_reducible apply ev_orV); (focus (walk_at "ev")); (focus (intro _; walk_at "ev")))
    | ((with_reducible apply ev_notV); (focus (walk_at "ev"))))
section
variable {P : Program} {w : World} {K : PySem.W.Frag} {mg : Str → Option Value} {base : Heap}
/-! ### the letters of a mask -/
theorem rowOk.sub {n : Int} {l m : List Int} (h : rowOk n m) (s : l.Sublist m) : rowOk n l := ⟨Nat.le_trans s.length_le h.1, fun x hx => h.2 x (s.subset hx)⟩
def inM (m : Nat) : Int → Bool := fun x => decide (0 ≤ x) && m.testBit x.toNat
theorem inM_of {m : Nat} {x : Int} (h : 0 ≤ x) : inM m x = m.testBit x.toNat := by unfold inM; rw [decide_eq_true h, Bool.true_and]
def hitN (n : Int) (ps : List (Int × Int)) (a : Int) (m : Nat) : Bool := m &&& barN ps a n.toNat != 0
def joinN (n : Int) (ps : List (Int × Int)) (a : Int) (F : List Nat) : Nat := (F.filter (hitN n ps a)).foldl (fun x y => x ||| y) (2 ^ a.toNat)
def hangS (n : Int) (ps : List (Int × Int)) (F : List Nat) (a : Int) : List Nat := F.filter (fun m => !hitN n ps a m) ++ [joinN n ps a F]
def hangL (n : Int) (ps : List (Int × Int)) (l : List Int) : List Nat := l.foldl (hangS n ps) []
theorem or_bit (j : Nat) : ∀ (L : List Nat) (x : Nat), (L.foldl (fun x y => x ||| y) x).testBit j = (x.testBit j || L.any fun y => y.testBit j)
  | [], x => by simp
  | y :: L, x => by
    rw [List.foldl_cons, or_bit j L, Nat.testBit_or, List.any_cons, Bool.or_assoc]
theorem hang_len (n : Int) (ps : List (Int × Int)) (F : List Nat) (a : Int) : (hangS n ps F a).length ≤ F.length + 1 := by
  unfold hangS
  rw [List.length_append]
  have := List.length_filter_le (fun m => !hitN n ps a m) F
  simp
  omega
structure Masks (n : Int) (ps : List (Int × Int)) (pre : List Int) (F : List Nat) : Prop where
  sub : ∀ m ∈ F, ∀ j : Nat, m.testBit j = true → (j : Int) ∈ pre
  parts : Parts ps pre (F.map inM)
  len : F.length ≤ pre.length
theorem hit_iff {n : Int} {ps : List (Int × Int)} {a : Int} {m : Nat} {pre : List Int} (h : ∀ j : Nat, m.testBit j = true → (j : Int) ∈ pre) (hp : rowIn n pre) : hitN n ps a m = true ↔ ∃ y ∈ pre, inM m y = true ∧ may ps a y = false := by
  unfold hitN
  rw [bne_iff_ne]
  constructor
  · intro ne
    obtain ⟨j, hj⟩ := Nat.exists_testBit_of_ne_zero ne
    rw [Nat.testBit_and, Bool.and_eq_true, barN_bit, Bool.and_eq_true] at hj
    exact ⟨j, h j hj.1, by rw [inM_of (Int.natCast_nonneg j), Int.toNat_natCast]; exact hj.1, by simpa using hj.2.2⟩
  · rintro ⟨y, hy, my, na⟩ z
    obtain ⟨h0, hn⟩ := hp y hy
    have hb : (m &&& barN ps a n.toNat).testBit y.toNat = true := by
      rw [Nat.testBit_and, Bool.and_eq_true, barN_bit, Bool.and_eq_true]
      rw [inM_of h0] at my
      refine ⟨my, decide_eq_true (by omega), ?_⟩
      rw [Int.toNat_of_nonneg h0, na]
      rfl
    rw [z, Nat.zero_testBit] at hb
    cases hb
def hitF (ps : List (Int × Int)) (pre : List Int) (a : Int) (f : Int → Bool) : Bool := pre.any fun y => f y && !may ps a y
theorem hitF_iff {ps : List (Int × Int)} {pre : List Int} {a : Int} {f : Int → Bool} : hitF ps pre a f = true ↔ ∃ y ∈ pre, f y = true ∧ may ps a y = false := by
  unfold hitF
  rw [List.any_eq_true]
  simp
theorem Masks.step {n : Int} {ps : List (Int × Int)} (hok : PairsOk n ps) {pre : List Int} {F : List Nat} (h : Masks n ps pre F) (hp : rowIn n pre) {a : Int} (h0 : 0 ≤ a) : Masks n ps (pre ++ [a]) (hangS n ps F a) := by
  have hb : ∀ x, (joinN n ps a F).testBit x = (decide (a.toNat = x) || (F.filter (hitN n ps a)).any fun y => y.testBit x) := fun x => by
    unfold joinN
    rw [or_bit, Nat.testBit_two_pow]
  refine ⟨fun m hm j hj => ?_, ?_, ?_⟩
  · rcases List.mem_append.mp hm with hm | hm
    · exact List.mem_append.mpr (.inl (h.sub m (List.mem_filter.mp hm).1 j hj))
    · rw [List.mem_singleton.mp hm, hb, Bool.or_eq_true] at hj
      rcases hj with e | e
      · have e := of_decide_eq_true e
        exact List.mem_append.mpr (.inr (List.mem_singleton.mpr (by omega)))
      · obtain ⟨y, hy, e⟩ := List.any_eq_true.mp e
        exact List.mem_append.mpr (.inl (h.sub y (List.mem_filter.mp hy).1 j e))
  · have key : ∀ m ∈ F, hitF ps pre a (inM m) = hitN n ps a m := fun m hm => by
      have e1 := hit_iff (ps := ps) (a := a) (h.sub m hm) hp
      rw [Bool.eq_iff_iff, e1]
      exact hitF_iff
    have z := h.parts.join hok a (hitF ps pre a) (fun f hf => hitF_iff) (fun f hf fa => ?_) (inM (joinN n ps a F)) (fun x => ?_)
    · have e : (F.map inM).filter (fun f => !hitF ps pre a f) = (F.filter fun m => !hitN n ps a m).map inM := by
        rw [List.filter_map]
        congr 1
        exact List.filter_congr fun m hm => by show (!hitF ps pre a (inM m)) = _; rw [key m hm]
      rw [e] at z
      unfold hangS
      rw [List.map_append]
      exact z
    · obtain ⟨m, hm, rfl⟩ := List.mem_map.mp hf
      rw [inM_of h0] at fa
      have := h.sub m hm a.toNat fa
      rw [Int.toNat_of_nonneg h0] at this
      exact this
    · by_cases x0 : 0 ≤ x
      · rw [inM_of x0, hb, Bool.or_eq_true, decide_eq_true_eq, List.any_eq_true]
        refine or_congr ⟨fun e => by omega, fun e => by rw [e]⟩ ⟨?_, ?_⟩
        · rintro ⟨y, hy, e⟩
          obtain ⟨y1, y2⟩ := List.mem_filter.mp hy
          exact ⟨inM y, List.mem_map.mpr ⟨y, y1, rfl⟩, by rw [key y y1]; exact y2, by rw [inM_of x0]; exact e⟩
        · rintro ⟨f, hf, hh, fx⟩
          obtain ⟨y, y1, rfl⟩ := List.mem_map.mp hf
          exact ⟨y, List.mem_filter.mpr ⟨y1, by rw [← key y y1]; exact hh⟩, by rw [← inM_of x0]; exact fx⟩
      · have no : ∀ m, inM m x = false := fun m => by unfold inM; rw [decide_eq_false x0, Bool.false_and]
        rw [no]
        refine ⟨fun e => (by cases e), ?_⟩
        rintro (e | ⟨f, hf, _, fx⟩)
        · omega
        · obtain ⟨y, _, rfl⟩ := List.mem_map.mp hf
          rw [no] at fx; cases fx
  · have := hang_len n ps F a
    have := h.len
    rw [List.length_append, List.length_singleton]
    omega
theorem hang_masks {n : Int} {ps : List (Int × Int)} (hok : PairsOk n ps) : ∀ (l pre : List Int) (F : List Nat), rowIn n (pre ++ l) → Masks n ps pre F → Masks n ps (pre ++ l) (l.foldl (hangS n ps) F)
  | [], pre, F, _, h => by rw [List.append_nil]; exact h
  | a :: l, pre, F, hp, h => by
    have e : pre ++ a :: l = pre ++ [a] ++ l := by simp
    rw [e] at hp ⊢
    exact hang_masks hok l (pre ++ [a]) _ hp (h.step hok (fun x hx => hp x (by simp [hx])) (hp a (by simp)).1)
theorem hang_ok {n : Int} {ps : List (Int × Int)} (hok : PairsOk n ps) {l : List Int} (hp : rowIn n l) : Masks n ps l (hangL n ps l) := hang_masks hok l [] [] hp ⟨fun m hm => (by cases hm), Parts.nil ps, Nat.le_refl _⟩
/-! ### the program -/
abbrev maskD (m : Nat) : PyData := .int (m : Nat)
abbrev A_choose (as : List Ag) (d : PyData) : Prop := ∃ (l : List Int) (m : Nat), l.length ≤ 20 ∧ (∀ x ∈ l, 0 ≤ x) ∧ as = [.c (.d (row l)), .c (.d (maskD m))] ∧ d = row (l.filter (inM m))
theorem ok_choose (E : Nv K mg) : FnOk P w K mg base CX0 4 E.a_choose E.d_choose ["row", "bits"] (spC K E.C_Trade A_choose) := by
  refine E.F_choose.ok sc_choose (fun vs H Q _ h => ?_) (fun cdv A outer s H vs Q _ hr h => ?_)
  · obtain ⟨as, d, ha, ⟨_, _, _, _, rfl, _⟩, _⟩ := h
    exact ha.length
  · obtain ⟨as, d, ha, ⟨l, m, hl, h0, rfl, rfl⟩, q⟩ := h
    obtain ⟨v1, v2, rfl, a1, a2⟩ := ha.two
    refine ⟨_, (pss_one (ps_ret (pe_callTy (call_tupleK K) (by rfl) E.n_tuple (by decide +kernel) (pa_cons (pe_lc (own := [("letter", 2)]) (g := gName 2) (by rfl) sc_choose.nd (pi_tupK K (pv 0)) (blkOk_by (own := [("letter", 2)]) (N := N_choose) (sc := defScope s_choose) (by decide +kernel)) (fun _ _ _ _ _ => (pg_name (i := 2) sc_choose.nd rfl (Or.inl rfl))) (fun _ _ _ _ _ => (pts_one (pt_cmpR (op_eqK K hr.units) (pe_op op_and (pe_op op_shr (pv 1) (pv 2)) pe_int) pe_int (nomark _)))) (fun _ _ _ _ _ => (pv 2))) pa_nil)))), ?_⟩
    have w : Wd K E.C_Trade [] [] H H _ [.d (row l), .d (maskD m), .u] := Wd.start2 (N := N_choose) a1 a2
    refine s_retQ w q (ev_d (ev_tupleN (en_lcT (l := l) (mk := PyData.int) w (ev_var (i := 0) w rfl) (inM m) PyData.int (by omega) (fun x hx σ1 H1 w1 => et_cast (et_test (ev_eqI (ev_i0 (ev_iC (d := .int ((m : Nat) / 2 ^ x.toNat)) (ev_var (i := 1) w1 rfl) (ev_var (i := 2) w1 rfl) (h0 x hx) (fun _ => .int _)) ev_int (fun _ => .int _)) ev_int)) ?_) (fun x hx σ1 H1 w1 _ => ev_var (i := 2) w1 rfl))) rfl)
    rw [shr_and, inM_of (h0 x hx)]
    cases m.testBit x.toNat <;> simp
abbrev A_hang (as : List Ag) (ds : List PyData) : Prop := ∃ (n : Int) (ps : List (Int × Int)) (l : List Int), 0 ≤ n ∧ n ≤ 6 ∧ l.length ≤ 20 ∧ rowIn n l ∧ as = [.n (iL (barsL n ps)), .c (.d (row l))] ∧ ds = (hangL n ps l).map maskD
theorem bitAnd_nat (a b : Nat) : Builtin.bitAnd (a : Int) (b : Int) = ((a &&& b : Nat) : Int) := by
  simp [Builtin.bitAnd]
theorem hangL_len (n : Int) (ps : List (Int × Int)) : ∀ (l : List Int) (F : List Nat), (l.foldl (hangS n ps) F).length ≤ F.length + l.length
  | [], F => Nat.le_refl _
  | a :: l, F => by
    have h1 := hangL_len n ps l (hangS n ps F a)
    have h2 := hang_len n ps F a
    rw [List.foldl_cons, List.length_cons]
    omega
theorem ok_hang (E : Nv K mg) : FnOk P w K mg base CX0 4 E.a_hang E.d_hang ["bars", "row"] (spN K E.C_Trade A_hang) := by
  refine E.F_hang.ok sc_hang (fun vs H Q _ h => ?_) (fun cdv A outer s H vs Q _ hr h => ?_)
  · obtain ⟨as, d, ha, ⟨_, _, _, _, _, _, _, rfl, _⟩, _⟩ := h
    exact ha.length
  · obtain ⟨as, d, ha, ⟨n, ps, l, h0, h6, hl, hin, rfl, rfl⟩, q⟩ := h
    obtain ⟨v1, v2, rfl, a1, a2⟩ := ha.two
    obtain ⟨pb, a1⟩ := a1.lent
    refine ⟨_, (pss_cons (ps_set (i := 2) sc_hang.nd rfl (.inl rfl) (pe_lst pa_nil))
      (pss_cons (ps_for PassesOwn.never rfl (pi_tupK K (pv 1)) (pg_name (i := 3) sc_hang.nd rfl (.inl rfl))
      (pss_cons (ps_set (i := 4) sc_hang.nd rfl (.inl rfl) (pe_op op_shl pe_int (pv 3)))
      (pss_cons (ps_set (i := 5) sc_hang.nd rfl (.inl rfl) (pe_lst pa_nil))
      (pss_cons (ps_for PassesOwn.never rfl (pi_listK K (pv 2)) (pg_name (i := 6) sc_hang.nd rfl (.inl rfl))
      (pss_one (ps_if (pt_cmpR (op_eqK K hr.units) (pe_op op_and (pv 6) (pe_ix (ix_K K) (pv 0) (pv 3) (fun _ _ => rfl))) pe_int (nomark _)) (pss_one (ps_expr (pe_bm PySem.F.plainAttrs_list PySem.F.slot_list_append PySem.F.type_list_append mt_append (pv 5) (pa_cons (pv 6) pa_nil)))) (pss_one (ps_set (i := 4) sc_hang.nd rfl (.inl rfl) (pe_op op_or (pv 4) (pv 6)))))))
      (pss_one (ps_set (i := 2) sc_hang.nd rfl (.inl rfl) (pe_op (op_addK K) (pv 5) (pe_lst (pa_cons (pv 4) pa_nil)))))))))
      (pss_one (ps_ret (pv 2))))), ?_⟩
    have w : Wd K E.C_Trade [] [] H H _ [.s pb (iL (barsL n ps)), .d (row l), .u, .u, .u, .u, .u] := Wd.start2 (N := N_hang) a1 a2
    refine q_asgN w (en_lst ed_nil) fun p σ1 H1 hp1 w1 => ?_
    refine q_forT w1 (ev_var (i := 1) w1 rfl) (fun b t σ H' => ∃ p c3 c4 c5 c6, Wd K E.C_Trade [] [(.ref b, row l)] H H' σ [.s pb (iL (barsL n ps)), .d (row l), .l p ((hangL n ps (l.take t)).map maskD), c3, c4, c5, c6]) (fun b H2 w2 => ⟨p, _, _, _, _, w2⟩) (fun b t σ H' ⟨_, _, _, _, _, w2⟩ => w2.gh0) ?_ ?_
    · rintro b t d v σ' H' hd tv ⟨p, c3, c4, c5, c6, w2⟩
      have ht : t < l.length := by
        have := (List.getElem?_eq_some_iff.mp hd).1
        rw [iL_len] at this
        exact this
      have ed : d = .int l[t] := by
        rw [iL_get, List.getElem?_eq_getElem ht] at hd
        exact (Option.some.inj hd).symm
      subst ed
      have hx := hin _ (List.getElem_mem ht)
      have hlen := hangL_len n ps (l.take t) []
      have hstep : hangL n ps (l.take (t + 1)) = hangS n ps (hangL n ps (l.take t)) l[t] := by
        unfold hangL
        rw [List.take_succ_eq_append_getElem ht, List.foldl_append]
        rfl
      rw [hstep]
      change (hangL n ps (l.take t)).length ≤ _ at hlen
      rw [List.length_take, List.length_nil] at hlen
      generalize hangL n ps (l.take t) = F at w2 hlen ⊢
      generalize l[t] = x at tv hx ⊢
      refine g_one (i := 3) w2 tv fun σ3 w3 => ?_
      have w3' : Wd K E.C_Trade [] [(.ref b, row l)] H H' σ3 [.s pb (iL (barsL n ps)), .d (row l), .l p (F.map maskD), .d (.int x), c4, c5, c6] := w3
      refine q_asgD (i := 4) (d := maskD (2 ^ x.toNat)) w3' (ev_d (ev_iC (d := .int (1 * 2 ^ x.toNat)) ev_int (ev_var (i := 3) w3' rfl) ⟨hx.1, by omega, by decide⟩ (fun _ => .int _)) (by rw [Int.one_mul]; simp [maskD])) fun σ4 H4 w4 => ?_
      refine q_asgN w4 (en_lst ed_nil) fun po σ5 H5 hpo w5 => ?_
      have w5' : Wd K E.C_Trade [] [(.ref b, row l)] H H5 σ5 [.s pb (iL (barsL n ps)), .d (row l), .l p (F.map maskD), .d (.int x), .d (maskD (2 ^ x.toNat)), .l po [], c6] := w5
      refine q_forL w5' (ev_var (i := 2) w5' rfl) (fun i σ H' => ∃ c6, Wd K E.C_Trade [] [(.ref b, row l)] H H' σ [.s pb (iL (barsL n ps)), .d (row l), .l p (F.map maskD), .d (.int x), .d (maskD (joinN n ps x (F.take i))), .l po (((F.take i).filter fun m => !hitN n ps x m).map maskD), c6]) (fun H6 w6 => ⟨_, w6⟩) (fun i σ H' ⟨_, w6⟩ => ?_) ?_ ?_
      · obtain ⟨v, _, _, xs, h1, h2⟩ := w6.get (i := 2) rfl
        exact ⟨xs, h1, h2⟩
      · rintro i d v σ6 H6 hd tv ⟨c6, w6⟩
        have hi : i < F.length := by
          have := (List.getElem?_eq_some_iff.mp hd).1
          rw [List.length_map] at this
          exact this
        have ed : d = maskD F[i] := by
          rw [List.getElem?_map, List.getElem?_eq_getElem hi] at hd
          exact (Option.some.inj hd).symm
        subst ed
        have htk : F.take (i + 1) = F.take i ++ [F[i]] := List.take_succ_eq_append_getElem hi
        have hfl : ((F.take i).filter fun m => !hitN n ps x m).length ≤ i := by
          have := List.length_filter_le (fun m => !hitN n ps x m) (F.take i)
          rw [List.length_take] at this
          omega
        rw [htk]
        generalize F[i] = m at tv ⊢
        refine g_one (i := 6) w6 tv fun σ7 w7 => ?_
        have w7' : Wd K E.C_Trade [] [(.ref b, row l)] H H6 σ7 [.s pb (iL (barsL n ps)), .d (row l), .l p (F.map maskD), .d (.int x), .d (maskD (joinN n ps x (F.take i))), .l po (((F.take i).filter fun m => !hitN n ps x m).map maskD), .d (maskD m)] := w7
        refine s_if w7' (b := !hitN n ps x m) (et_cast (et_test (ev_eqI (ev_i0 (ev_var (i := 6) w7' rfl) (ev_ixS (ev_var (i := 0) w7' rfl) (ev_var (i := 3) w7' rfl) (bars_get hx.1 hx.2)) (fun _ => .int _)) ev_int)) ?_) (fun e H8 w8 => ?_) (fun e H8 w8 => ?_)
        · rw [bitAnd_nat]
          unfold hitN
          by_cases z : m &&& barN ps x n.toNat = 0
          · rw [z]; rfl
          · rw [decide_eq_false (p := ((m &&& barN ps x n.toNat : Nat) : Int) = 0) (fun e => z (Int.ofNat.inj e)), bne_iff_ne.mpr z]; rfl
        · have e' : hitN n ps x m = false := by simpa using e
          refine s_app w8 (i := 5) rfl (ev_var (i := 6) w8 rfl) (by rw [List.length_map]; omega) fun H9 w9 => ⟨.d (maskD m), ?_⟩
          have e1 : joinN n ps x (F.take i ++ [m]) = joinN n ps x (F.take i) := by
            unfold joinN
            rw [List.filter_append, List.filter_cons_of_neg (by rw [e']; exact Bool.false_ne_true), List.filter_nil, List.append_nil]
          have e2 : (F.take i ++ [m]).filter (fun m => !hitN n ps x m) = (F.take i).filter (fun m => !hitN n ps x m) ++ [m] := by
            rw [List.filter_append, List.filter_cons_of_pos (by rw [e']; rfl), List.filter_nil]
          rw [e1, e2, List.map_append]
          exact w9
        · have e' : hitN n ps x m = true := by simpa using e
          refine s_asgD w8 (i := 4) (d := maskD (joinN n ps x (F.take i) ||| m)) (ev_d (ev_i0 (ev_var (i := 4) w8 rfl) (ev_var (i := 6) w8 rfl) (fun _ => .int _)) (by rw [bitOr_nat])) fun σ9 H9 w9 => ⟨.d (maskD m), ?_⟩
          have e1 : joinN n ps x (F.take i ++ [m]) = joinN n ps x (F.take i) ||| m := by
            unfold joinN
            rw [List.filter_append, List.filter_cons_of_pos e', List.filter_nil, List.foldl_append]
            rfl
          have e2 : (F.take i ++ [m]).filter (fun m => !hitN n ps x m) = (F.take i).filter (fun m => !hitN n ps x m) := by
            rw [List.filter_append, List.filter_cons_of_neg (by rw [e']; simp), List.filter_nil, List.append_nil]
          rw [e1, e2]
          exact w9
      · rintro σ6 H6 ⟨c6, w6⟩
        rw [List.length_map, List.take_length] at w6
        have hfl : (F.filter fun m => !hitN n ps x m).length ≤ F.length := List.length_filter_le _ _
        refine s_asgN w6 (en_addL (ev_var (i := 5) w6 rfl) (en_lst (ed_cons (ev_var (i := 4) w6 rfl) ed_nil) (by simp)) (by rw [List.length_map]; simp; omega)) fun p2 σ7 H7 _ w7 => ⟨p2, .d (.int x), .d (maskD (joinN n ps x F)), .l po ((F.filter fun m => !hitN n ps x m).map maskD), c6, ?_⟩
        have e : (hangS n ps F x).map maskD = ((F.filter fun m => !hitN n ps x m).map maskD) ++ [maskD (joinN n ps x F)] := by
          unfold hangS
          rw [List.map_append]
          rfl
        rw [e]
        exact w7
    · rintro b σ' H' ⟨p, c3, c4, c5, c6, w2⟩
      rw [iL_len, List.take_length] at w2
      exact s_retLQ w2 q rfl
abbrev A_parts (as : List Ag) (ds : List PyData) : Prop := ∃ (n : Int) (ps : List (Int × Int)) (l : List Int), PairsOk n ps ∧ 0 ≤ n ∧ n ≤ 6 ∧ rowOk n l ∧ as = [.c (.t n ps), .c (.d (row l))] ∧ ds = sortedD ((((hangL n ps l).map fun m => l.filter (inM m)).map (leastL ps)).map row)
theorem ok_parts (E : Nv K mg) : FnOk P w K mg base CX0 16 E.a_parts E.d_parts ["trade", "row"] (spN K E.C_Trade A_parts) := by
  refine E.F_parts.ok sc_parts (fun vs H Q _ h => ?_) (fun cdv A outer s H vs Q _ hr h => ?_)
  · obtain ⟨as, d, ha, ⟨_, _, _, _, _, _, _, rfl, _⟩, _⟩ := h
    exact ha.length
  · obtain ⟨as, d, ha, ⟨n, ps, l, hok, h0, h6, hrow, rfl, rfl⟩, q⟩ := h
    obtain ⟨v1, v2, rfl, a1, a2⟩ := ha.two
    refine ⟨_, (pss_cons (ps_expr (pe_call (ok_check_trade E) (hr.mono (by first | decide | omega)) (by rfl) E.m_check_trade E.F_check_trade.kp E.b_check_trade .nil pass0 (pa_cons (pv 0) pa_nil)))
      (pss_cons (ps_expr (pe_call (ok_check_row E) (hr.mono (by first | decide | omega)) (by rfl) E.m_check_row E.F_check_row.kp E.b_check_row .nil pass0 (pa_cons (pv 0) (pa_cons (pv 1) pa_nil))))
      (pss_cons (ps_set (i := 2) sc_parts.nd rfl (.inr rfl) (pe_call (ok_bars_of E) (hr.mono (by first | decide | omega)) (by rfl) E.m_bars_of E.F_bars_of.kp E.b_bars_of .nil pass0 (pa_cons (pv 0) pa_nil)))
      (pss_one (ps_ret (pe_callB (call_sortK K hr.units12) (by rfl) E.n_sorted (by decide +kernel) (pa_cons (pe_lc (own := [("bits", 3)]) (g := gName 3) (by rfl) sc_parts.nd (pi_listK K (pe_call (ok_hang E) (hr.mono (by first | decide | omega)) (by rfl) E.m_hang E.F_hang.kp E.b_hang .nil pass0 (pa_cons (pv 2) (pa_cons (pv 1) pa_nil)))) (blkOk_by (own := [("bits", 3)]) (N := N_parts) (sc := defScope s_parts) (by decide +kernel)) (fun _ _ _ _ _ => (pg_name (i := 3) sc_parts.nd rfl (Or.inl rfl))) (fun _ _ _ _ _ => pts_nil) (fun _ _ _ _ _ => (pe_call (ok_least_of E) (hr.mono (by first | decide | omega)) (by rfl) E.m_least_of E.F_least_of.kp E.b_least_of .nil pass0 (pa_cons (pv 2) (pa_cons (pe_call (ok_choose E) (hr.mono (by first | decide | omega)) (by rfl) E.m_choose E.F_choose.kp E.b_choose .nil pass0 (pa_cons (pv 1) (pa_cons (pv 3) pa_nil))) pa_nil))))) pa_nil))))))), ?_⟩
    have w : Wd K E.C_Trade [] [] H H _ [.t n ps, .d (row l), .u, .u] := Wd.start2 (N := N_parts) a1 a2
    refine q_drop w (ev_call (by walk_at "ea") ⟨_, _, rfl, rfl⟩) fun H1 w1 => ?_
    refine q_drop w1 (ev_call (by walk_at "ea") ⟨_, _, _, hrow, rfl, rfl⟩) fun H2 w2 => ?_
    refine q_asgN w2 (en_call (ea_cons (ev_var (i := 0) w2 rfl) ea_nil) ⟨n, ps, h0, h6, rfl, rfl⟩) fun pb σ3 H3 _ w3 => ?_
    have w3' : Wd K E.C_Trade [] [] H H3 σ3 [.t n ps, .d (row l), .l pb (iL (barsL n ps)), .u] := w3
    have hm := hang_ok hok hrow.2
    have sub : ∀ m : Nat, rowOk n (l.filter (inM m)) := fun m => rowOk.sub hrow List.filter_sublist
    have hlen := hm.len
    have l20 := hrow.1
    refine s_retNQ w3' q (en_sortN (ds := (((hangL n ps l).map fun m => l.filter (inM m)).map (leastL ps)).map row) (en_cast (en_lcN (l := hangL n ps l) (mk := maskD) w3' (en_call (ea_consL (ev_var (i := 2) w3' rfl) (ea_cons (ev_var (i := 1) w3' rfl) ea_nil)) ⟨n, ps, l, h0, h6, hrow.1, hrow.2, rfl, rfl⟩) (fun _ => true) (fun m => row (leastL ps (l.filter (inM m)))) (by omega) (fun m _ σ1 H1 w1 => et_yes) (fun m _ σ1 H1 w1 _ =>
      ev_call (ea_consL (ev_var (i := 2) w1 rfl) (ea_cons (ev_call (ea_cons (ev_var (i := 1) w1 rfl) (ea_cons (ev_var (i := 3) w1 rfl) ea_nil)) ⟨l, m, hrow.1, fun x hx => (hrow.2 x hx).1, rfl, rfl⟩) ea_nil)) ⟨n, ps, l.filter (inM m), hok, h0, h6, (sub m).1, (sub m).2, rfl, rfl⟩)) ?_) (rows_alike _) (rows_sortable fun r hr => ?_) (fun d hd => ?_))
    · rw [kept_all, List.map_map, List.map_map]
      rfl
    · obtain ⟨s, hs, rfl⟩ := List.mem_map.mp hr
      obtain ⟨m, hm', rfl⟩ := List.mem_map.mp hs
      obtain ⟨x, hx, fx⟩ := hm.parts.ne (inM m) (List.mem_map.mpr ⟨m, hm', rfl⟩)
      have := (alike_perm (least_alike ps (l.filter (inM m)))).mem_iff.mp (List.mem_filter.mpr ⟨hx, fx⟩)
      exact List.ne_nil_of_mem this
    · obtain ⟨r, _, rfl⟩ := List.mem_map.mp hd
      exact row_depth r
end
end K1
set_option maxRecDepth 10000000
namespace K1
open PySem PySem.Spec PyProof.Rows L2 Pt
local macro_rules
  | `(tactic| walk_at "sz") => `(tactic| first
    | omega
    | decide
    | (simp; omega)
    | (simp [iL, row, pairsD]; omega))
  | `(tactic| walk_at "ea") => `(tactic| first
    | (with_reducible exact ea_nil)
    | ((with_reducible apply ea_consL); (focus (walk_at "ev")); (focus (walk_at "ea")))
    | ((with_reducible apply ea_consS); (focus (walk_at "ev")); (focus (walk_at "ea")))
    | ((with_reducible apply ea_cons); (focus (walk_at "ev")); (focus (walk_at "ea")))
    | ((with_reducible apply ea_consN); (focus (walk_at "en")); (focus (walk_at "ea"))))
  | `(tactic| walk_at "ed") => `(tactic| first
    | (with_reducible exact ed_nil)
    | ((with_reducible apply ed_cons); (focus (walk_at "ev")); (focus (walk_at "ed"))))
  | `(tactic| walk_at "en") => `(tactic| first
    | ((with_reducible apply en_lst); (focus (walk_at "ed")); (focus (simp)))
    | ((with_reducible apply en_listT); (focus (walk_at "ev")))
    | ((with_reducible apply en_addL); (focus (walk_at "ev")); (focus (walk_at "en")); (focus (walk_at "sz")))
    | ((with_reducible apply en_addN); (focus (walk_at "en")); (focus (walk_at "en")); (focus (walk_at "sz")))
    | ((with_reducible apply en_slL); (focus (walk_at "ev")); (focus (walk_at "eo")); (focus (walk_at "eo"))))
  | `(tactic| walk_at "eo") => `(tactic| first
    | (with_reducible exact eo_none)
    | ((with_reducible apply eo_some); (focus (walk_at "ev"))))
  | `(tactic| walk_at "et") => `(tactic| first
    | (with_reducible exact et_yes)
    | ((with_reducible apply et_test); (focus (walk_at "ev")))
    | ((with_reducible apply et_B); (focus (walk_at "ev")))
    | ((with_reducible apply et_truB); (focus (walk_at "ev")))
    | ((with_reducible apply et_truT); (focus (walk_at "ev")))
    | ((with_reducible apply et_not); (focus (walk_at "et")))
    | ((with_reducible apply et_and); (focus (walk_at "et")); (focus (intro _; walk_at "et")))
    | ((with_reducible apply et_or); (focus (walk_at "et")); (focus (intro _; walk_at "et"))))
  | `(tactic| walk_at "var") => `(tactic| first
    | ((with_reducible apply ev_varD); (focus (assumption)); (focus (rfl)))
    | ((with_reducible apply ev_varL); (focus (assumption)); (focus (rfl)))
    | ((with_reducible apply ev_varS); (focus (assumption)); (focus (rfl)))
    | ((with_reducible apply ev_varT); (focus (assumption)); (focus (rfl)))
    | ((with_reducible apply ev_varH); (focus (assumption)); (focus (rfl)))
    | ((with_reducible apply ev_varZ); (focus (assumption)); (focus (rfl))))
  | `(tactic| walk_at "ev") => `(tactic| first
    | walk_at "var"
    | (with_reducible exact ev_int)
    | (with_reducible exact ev_bl)
    | (with_reducible exact ev_str)
    | (with_reducible exact ev_non)
    | ((with_reducible apply ev_letters); (focus (walk_at "ev")))
    | ((with_reducible apply ev_pairs); (focus (walk_at "ev")))
    | ((with_reducible apply ev_addI); (focus (walk_at "ev")); (focus (walk_at "ev")))
    | ((with_reducible apply ev_addT); (focus (walk_at "ev")); (focus (walk_at "ev")); (focus (walk_at "sz")))
    | ((with_reducible apply ev_i0); (focus (walk_at "ev")); (focus (walk_at "ev")); (focus (first | exact fun _ => .int _ | exact fun _ => .bl _)))
    | ((with_reducible apply ev_iC); (focus (walk_at "ev")); (focus (walk_at "ev")); (focus (first | assumption | walk_at "cond")); (focus (exact fun _ => .int _)))
    | ((with_reducible apply ev_chain); (focus (walk_at "ev")); (focus (walk_at "ev")); (focus (walk_at "ev")))
    | ((with_reducible apply ev_eqI); (focus (walk_at "ev")); (focus (walk_at "ev")))
    | ((with_reducible apply ev_neI); (focus (walk_at "ev")); (focus (walk_at "ev")))
    | ((with_reducible apply ev_eqR); (focus (walk_at "ev")); (focus (walk_at "ev")))
    | ((with_reducible apply ev_neR); (focus (walk_at "ev")); (focus (walk_at "ev")))
    | ((with_reducible apply ev_isN); (focus (walk_at "ev")))
    | ((with_reducible apply ev_notN); (focus (walk_at "ev")))
    | ((with_reducible apply ev_in2); (focus (walk_at "ev")); (focus (walk_at "ev")); (focus (walk_at "ev")))
    | ((with_reducible apply ev_inP); (focus (walk_at "ev")); (focus (walk_at "ev")))
    | ((with_reducible apply ev_tup); (focus (walk_at "ed")); (focus (simp)))
    | ((with_reducible apply ev_lenT); (focus (walk_at "ev")))
    | ((with_reducible apply ev_lenL); (focus (walk_at "ev")))
    | ((with_reducible apply ev_lenS); (focus (walk_at "ev")))
    | ((with_reducible apply ev_lenN); (focus (walk_at "en")))
    | ((with_reducible apply ev_max2); (focus (walk_at "ev")); (focus (walk_at "ev")))
    | ((with_reducible apply ev_min2); (focus (walk_at "ev")); (focus (walk_at "ev")))
    | ((with_reducible apply ev_int1); (focus (walk_at "ev")))
    | ((with_reducible apply ev_tupleL); (focus (walk_at "ev")))
    | ((with_reducible apply ev_tupleN); (focus (walk_at "en")))
    | ((with_reducible apply ev_countT); (focus (walk_at "ev")); (focus (walk_at "ev")))
    | ((with_reducible apply ev_andV); (focus (walk_at "ev")); (focus (intro _; walk_at "ev")))
    | ((with_reducible apply ev_orV); (focus (walk_at "ev")); (focus (intro _; walk_at "ev")))
    | ((with_reducible apply ev_notV); (focus (walk_at "ev"))))
section
variable {K : PySem.W.Frag} {C : Addr} {H H' H1 H2 : Hp} {v w x y : V} {vs : List V} {d e : PyData} {ds es : List PyData}
variable {S : List Addr} {G : List (V × PyData)} {H0 : Hp} {σ : L2.St} {Γ : List Ct} {i j k l : Nat} {c : Ct} {te ta tb tc tl ty td tv : TE} {t u : TT}
variable {D : Ends} {tu tw tz : TS} {p q f : Addr} {b : Int} {E : XK}
/-! ### lists of lists -/
abbrev refsL (p : Addr) (rs : List Addr) : Ct := .o p (.lst (rs.map V.ref)) []
def LotsAt (H : Hp) : List Addr → List (List Int) → Prop
  | [], [] => True
  | r :: rs, l :: ls => H r = some (.lst (l.map V.int)) ∧ LotsAt H rs ls
  | _, _ => False
theorem LotsAt.fr {T : List Addr} (f : Fr T H H') : ∀ {rs : List Addr} {ls : List (List Int)}, (∀ r ∈ rs, r ∉ T) → LotsAt H rs ls → LotsAt H' rs ls
  | [], [], _, _ => True.intro
  | r :: rs, l :: ls, n, ⟨a, b⟩ => ⟨f _ _ a (n r List.mem_cons_self), LotsAt.fr f (fun r h => n r (List.mem_cons_of_mem _ h)) b⟩
  | [], _ :: _, _, h => h.elim
  | _ :: _, [], _, h => h.elim
theorem LotsAt.mono (e : Same H H') {rs : List Addr} {ls : List (List Int)} (h : LotsAt H rs ls) : LotsAt H' rs ls := h.fr (Fr.of e []) (by simp)
theorem LotsAt.snoc {r : Addr} {l : List Int} (hr : H r = some (.lst (l.map V.int))) : ∀ {rs : List Addr} {ls : List (List Int)}, LotsAt H rs ls → LotsAt H (rs ++ [r]) (ls ++ [l])
  | [], [], _ => ⟨hr, True.intro⟩
  | r' :: rs, l' :: ls, ⟨a, b⟩ => ⟨a, LotsAt.snoc hr b⟩
  | [], _ :: _, h => h.elim
  | _ :: _, [], h => h.elim
theorem LotsAt.length : ∀ {rs : List Addr} {ls : List (List Int)}, LotsAt H rs ls → rs.length = ls.length
  | [], [], _ => rfl
  | _ :: _, _ :: _, ⟨_, b⟩ => congrArg (· + 1) (LotsAt.length b)
  | [], _ :: _, h => h.elim
  | _ :: _, [], h => h.elim
theorem LotsAt.get : ∀ {rs : List Addr} {ls : List (List Int)} {k : Nat} {l : List Int}, LotsAt H rs ls → ls[k]? = some l → ∃ r, rs[k]? = some r ∧ H r = some (.lst (l.map V.int))
  | [], [], _, _, _, e => by simp at e
  | r :: _, _ :: _, 0, _, ⟨a, _⟩, e => by simp at e; subst e; exact ⟨r, rfl, a⟩
  | _ :: _, _ :: _, k + 1, _, ⟨_, b⟩, e => by
    obtain ⟨r, h1, h2⟩ := LotsAt.get (k := k) b (by simpa using e)
    exact ⟨r, by simpa using h1, h2⟩
  | [], _ :: _, _, _, h, _ => h.elim
  | _ :: _, [], _, _, h, _ => h.elim
theorem LotsAt.some : ∀ {rs : List Addr} {ls : List (List Int)}, LotsAt H rs ls → ∀ r ∈ rs, H r ≠ none
  | [], _, _, r, h => by cases h
  | _ :: _, _ :: _, ⟨a, b⟩, r, h => by
    rcases List.mem_cons.mp h with rfl | h
    · rw [a]; intro z; cases z
    · exact LotsAt.some b r h
  | _ :: _, [], h, _, _ => h.elim
theorem Wd.recast {c0 c1 : Ct} (w : Wd K C S G H0 H σ Γ) (hi : Γ[i]? = some c0) (h0 : c0.adr = [p]) (o0 : c0.own = true) (h1 : c1.adr = [p]) (o1 : c1.own = true) (hv : ∀ v, CtAt K C H v c0 → CtAt K C H v c1) : Wd K C S G H0 H σ (Γ.set i c1) := by
  have nu : c0 ≠ .u := fun z => by rw [z] at o0; cases o0
  obtain ⟨v, e1, a1⟩ := w.get hi nu
  exact w.chgFr hi h0 o0 h1 o1 (fun a o h _ => h) (a1.there (a := p) (by rw [h0]; simp)) hv
theorem ev_neNilG {p : Addr} (ha : EvC K C ta σ H (.l p ds)) (hs : SeqAt.shaped (.list ds) = true) : EvC K C (tOp (rNeD K) ta (tLst tNil)) σ H (.d (.bool (!ds.isEmpty))) := fun H1 e1 Q q =>
  ha H1 e1 _ fun a H2 e2 a2 => (en_lst ed_nil (Nat.zero_le _) : EvN K C (tLst tNil) σ H []) H2 (e1.trans e2) _ fun b H3 _ e3 a3 => by
    obtain ⟨rfl, xs, s, t⟩ := CtAt.mono e3 a2
    obtain ⟨_, ys, s', t'⟩ := a3
    refine ⟨_, _, .lst (SqL.of s) (TdAll.dp _ _ t), .lst (SqL.of s') (TdAll.dp _ _ t'), hs, shaped_list [], ?_⟩
    rw [eqv_nil]
    exact q _ H3 (e2.trans e3) (.bl _)
theorem en_addLL {p q : Addr} (ha : EvC K C ta σ H (.l p ds)) (hb : EvC K C tb σ H (.l q es)) (hl : ds.length + es.length ≤ 10000000) : EvN K C (tOp (rAddU K) ta tb) σ H (ds ++ es) := fun H1 e1 Q k =>
  ha H1 e1 _ fun v H2 e2 a2 => hb H2 (e1.trans e2) _ fun w H3 e3 a3 => .inr (.inr (by
    obtain ⟨rfl, xs, s1, d1⟩ := CtAt.mono e3 a2
    obtain ⟨rfl, ys, s2, d2⟩ := a3
    have l1 := d1.length
    have l2 := d2.length
    exact ⟨p, q, xs, ys, rfl, rfl, s1, s2, Nat.le_trans (by omega) (show 10000000 ≤ sizeLine by decide), fun l hl => k l _ ((e2.trans e3).free hl) ((e2.trans e3).trans (same_new hl)) (new_l hl (d1.append d2))⟩))
theorem s_unpNN (w : Wd K C S G H0 H σ Γ) (ha : EvN K C ta σ H ds) (hb : EvN K C tb σ H es) (k : ∀ p q σ1 H1, Wd K C S G H0 H1 σ1 ((Γ.set i (.l p ds)).set j (.l q es)) → D.nx σ1 H1) : tAsg (tTupF (tCons ta (tCons tb tNil))) (gTup K 2 (gCons (gName i) (gCons (gName j) gNil))) D σ H :=
  ha H (Same.refl H) _ fun p H1 hp e1 a1 => hb H1 e1 _ fun q H2 hq e2 a2 => ⟨by show 2 ≤ sizeLine; decide, fun T o hT ho => ⟨T, _, rfl, (show SqF _ T _ from ⟨o, upd_same, ho⟩).sq, rfl, .ref p, [.ref q], rfl, .ref q, [], rfl, rfl, k p q _ _ (((w.setN i e1 hp a1).setN j e2 hq a2).mono (same_new hT))⟩⟩
theorem q_unpDN (w : Wd K C S G H0 H σ Γ) (ha : EvC K C ta σ H (.d d)) (hb : EvN K C tb σ H es) (k : ∀ q σ1 H1, Wd K C S G H0 H1 σ1 ((Γ.set i (.d d)).set j (.l q es)) → tz D σ1 H1) : tSeq (tAsg (tTupF (tCons ta (tCons tb tNil))) (gTup K 2 (gCons (gName i) (gCons (gName j) gNil)))) tz D σ H :=
  ha H (Same.refl H) _ fun v H1 e1 a1 => hb H1 e1 _ fun q H2 hq e2 a2 => ⟨by show 2 ≤ sizeLine; decide, fun T o hT ho => ⟨T, _, rfl, (show SqF _ T _ from ⟨o, upd_same, ho⟩).sq, rfl, v, [.ref q], rfl, .ref q, [], rfl, rfl, k q _ _ ((((w.mono e1).set i (c := .d d) a1).setN j e2 hq a2).mono (same_new hT))⟩⟩
/-- a list put into a list of lists -/
theorem q_appO {rs : List Addr} (w : Wd K C S G H0 H σ Γ) (hi : Γ[i]? = some (refsL p rs)) (hj : Γ[j]? = some (.l q ds)) (hz : rs.length < 10000000) (k : ∀ H1, Wd K C S G H0 H1 σ (Γ.set i (refsL p (rs ++ [q]))) → tz D σ H1) :
    tSeq (tDrop (tBM K "list" rAppend (tVar i) (tCons (tVar j) tNil))) tz D σ H := by
  obtain ⟨v, e1, rfl, e2, wr, _⟩ := w.get hi
  obtain ⟨v', f1, rfl, _⟩ := w.get hj
  refine ⟨.ref p, e1, .inl ⟨rfl, _, SqL.of e2⟩, .ref q, f1, p, _, _, rfl, rfl, e2, Nat.lt_of_lt_of_le (by rw [List.length_map]; exact hz) (show 10000000 ≤ sizeLine by decide), ?_⟩
  refine k _ (w.chgG hi rfl rfl rfl rfl True.intro fun v a => ?_)
  exact ⟨a.1, by rw [List.map_append]; exact upd_same, True.intro, fun e m => by cases m⟩
end
section
variable {P : Program} {w : World} {K : PySem.W.Frag} {mg : Str → Option Value} {base : Heap}
def lettersL (n : Int) (l : List Int) : List Int := ((List.range n.toNat).map fun k : Nat => (k : Int)).filter fun x => decide (x ∈ l)
theorem letters_strict (n : Int) (l : List Int) : (lettersL n l).Pairwise (· < ·) := by
  unfold lettersL
  refine List.Pairwise.filter _ ?_
  rw [List.pairwise_map]
  exact List.pairwise_lt_range.imp fun h => by omega
theorem mem_letters {n : Int} {l : List Int} (h : rowIn n l) (x : Int) : x ∈ lettersL n l ↔ x ∈ l := by
  unfold lettersL
  rw [List.mem_filter, decide_eq_true_eq]
  refine ⟨fun z => z.2, fun hx => ⟨?_, hx⟩⟩
  have := h x hx
  exact List.mem_map.mpr ⟨x.toNat, List.mem_range.mpr (by omega), by omega⟩
def spLots (K : PySem.W.Frag) (C : Addr) : Sp := fun vs H Q _ => ∃ (n : Int) (ps : List (Int × Int)) (l : List Int) (as : List Ag), Args K C H vs as ∧ PairsOk n ps ∧ rowIn n l ∧ l.length ≤ 20 ∧ as = [.c (.d (pairsD ps)), .c (.d (row l))] ∧
  ∀ p H' rs lots, Lots ps l [] lots → LotsAt H' rs lots → H p = none → Same H H' → H' p = some (.lst (rs.map V.ref)) → Q (.ref p) H'
theorem ok__law_lots (E : Nv K mg) : FnOk P w K mg base CX0 12 E.a__law_lots E.d__law_lots ["_law_pairs_here", "_law_row_here"] (spLots K E.C_Trade) := by
  refine E.F__law_lots.ok sc__law_lots (fun vs H Q _ h => ?_) (fun cdv A outer s H vs Q _ hr h => ?_)
  · obtain ⟨n, ps, l, as, ha, _, _, _, rfl, _⟩ := h
    exact ha.length
  · obtain ⟨n, ps, l, as, ha, hok, hin, hl, rfl, q⟩ := h
    obtain ⟨v1, v2, rfl, a1, a2⟩ := ha.two
    refine ⟨_, (pss_cons (ps_par (i := 2) (j := 3) (by rfl) sc__law_lots.nd rfl rfl (by decide) rfl rfl (pa_cons (pe_callB (cr_sortedSet rfl) (by rfl) E.n_sorted (by decide +kernel) (pa_cons (pe_callTy (call_setTK K rfl) (by rfl) E.n_set (by decide +kernel) (pa_cons (pv 1) pa_nil)) pa_nil)) (pa_cons (pe_lst pa_nil) pa_nil)) (by rfl))
      (pss_cons (ps_while PassesOwn.never (pt_cmpR (op_neK K hr.units) (pv 2) (pe_lst pa_nil) (nomark _)) (pss_cons (ps_asg (pe_tupF (pa_cons (pe_lst (pa_cons (pe_ix (ix_K K) (pv 2) pe_int (fun _ _ => rfl)) pa_nil)) (pa_cons (pe_lst (pa_cons (pe_ix (ix_K K) (pv 2) pe_int (fun _ _ => rfl)) pa_nil)) pa_nil))) (pg_tupK K (n := 2) rfl (pgs_cons (pg_name (i := 4) sc__law_lots.nd rfl (.inr rfl)) (pgs_cons (pg_name (i := 5) sc__law_lots.nd rfl (.inl rfl)) pgs_nil))))
      (pss_cons (ps_while PassesOwn.never (pt_cmpR (op_neK K hr.units) (pv 5) (pe_lst pa_nil) (nomark _)) (pss_cons (ps_asg (pe_tupF (pa_cons (pe_ix (ix_K K) (pv 5) pe_int (fun _ _ => rfl)) (pa_cons (pe_slice (sl_K K) (pv 5) (po_some pe_int) po_none) pa_nil))) (pg_tupK K (n := 2) rfl (pgs_cons (pg_name (i := 6) sc__law_lots.nd rfl (.inr rfl)) (pgs_cons (pg_name (i := 5) sc__law_lots.nd rfl (.inl rfl)) pgs_nil))))
      (pss_cons (ps_setLc (i := 7) (own := [("_law_x", 8)]) (g := gName 8) rfl sc__law_lots.nd rfl rfl (sw_true rfl rfl rfl (by decide +kernel)) (pi_listK K (pv 2)) (blkOk_by (own := [("_law_x", 8)]) (N := N__law_lots) (sc := defScope s__law_lots) (by decide +kernel)) (fun _ _ _ _ _ => (pg_name (i := 8) sc__law_lots.nd rfl (Or.inl rfl))) (fun _ _ _ _ _ => (pts_one (PW.pt (pw_and (pt_cmpR (op_notInK K) (pv 8) (pv 4) (by with_unfolding_all rfl)) (pw_and1 (pt_not (pt_truK K (pe_call (ok__law_may E) (hr.mono (by first | decide | omega)) (by rfl) E.m__law_may E.F__law_may.kp E.b__law_may .nil pass0 (pa_cons (pv 0) (pa_cons (pv 6) (pa_cons (pv 8) pa_nil)))) (fun _ => rfl)))))))) (fun _ _ _ _ _ => (pv 8)))
      (pss_one (ps_asg (pe_tupF (pa_cons (pe_op (op_addK K) (pv 4) (pv 7)) (pa_cons (pe_op (op_addK K) (pv 5) (pv 7)) pa_nil))) (pg_tupK K (n := 2) rfl (pgs_cons (pg_name (i := 4) sc__law_lots.nd rfl (.inr rfl)) (pgs_cons (pg_name (i := 5) sc__law_lots.nd rfl (.inl rfl)) pgs_nil))))))))
      (pss_cons (ps_expr (pe_bm PySem.F.plainAttrs_list PySem.F.slot_list_append PySem.F.type_list_append mt_append (pv 3) (pa_cons (pv 4) pa_nil)))
      (pss_one (ps_setLc (i := 2) (own := [("_law_x", 8)]) (g := gName 8) rfl sc__law_lots.nd rfl rfl (sw_true rfl rfl rfl (by decide +kernel)) (pi_listK K (pv 2)) (blkOk_by (own := [("_law_x", 8)]) (N := N__law_lots) (sc := defScope s__law_lots) (by decide +kernel)) (fun _ _ _ _ _ => (pg_name (i := 8) sc__law_lots.nd rfl (Or.inl rfl))) (fun _ _ _ _ _ => (pts_one (pt_cmpR (op_notInK K) (pv 8) (pv 4) (by with_unfolding_all rfl)))) (fun _ _ _ _ _ => (pv 8))))))))
      (pss_one (ps_ret (pv 3))))), ?_⟩
    have w0 : Wd K E.C_Trade [] [] H H _ [.d (pairsD ps), .d (row l), .u, .u, .u, .u, .u, .u, .u] := Wd.start2 (N := N__law_lots) a1 a2
    refine q_parNN w0 (en_sortSet (l := l) (ev_var (i := 1) w0 rfl) (Nat.lt_of_le_of_lt hl (by decide)) (letters_strict n l) (mem_letters hin)) (en_lst ed_nil) fun pl pf σ1 H1 w1 => ?_
    have w1a : Wd K E.C_Trade [] [] H H1 σ1 [.d (pairsD ps), .d (row l), .l pl (iL (lettersL n l)), .l pf [], .u, .u, .u, .u, .u] := w1
    have w1' : Wd K E.C_Trade [] [] H H1 σ1 [.d (pairsD ps), .d (row l), .l pl (iL (lettersL n l)), refsL pf [], .u, .u, .u, .u, .u] := Wd.recast (i := 3) w1a rfl rfl rfl (c1 := refsL pf []) rfl rfl fun v a => by
      obtain ⟨rfl, xs, h1, h2⟩ := a
      cases h2
      exact ⟨rfl, h1, True.intro, fun e m => by cases m⟩
    clear w1 w1a
    refine s_seq ⟨fun M σ H' => ∃ (left : List Int) (lots : List (List Int)) (rs : List Addr) (pl pf : Addr), Wd K E.C_Trade [] [] H H' σ [.d (pairsD ps), .d (row l), .l pl (iL left), refsL pf rs, .u, .u, .u, .u, .u] ∧ Lots ps l left lots ∧ LotsAt H' rs lots ∧ (∀ r ∈ rs, r ≠ pl ∧ r ≠ pf) ∧ rs.length + left.length ≤ 20 ∧ M = left.length,
      ⟨_, lettersL n l, [], [], pl, pf, w1', Lots.start ((letters_strict n l).imp fun h => by omega) (mem_letters hin), True.intro, fun r h => (by cases h), ?_, rfl⟩, ?_⟩
    · have := nodup_le (l := l) ((letters_strict n l).imp fun h => by omega) fun x hx => (mem_letters hin x).mp hx
      simp
      omega
    rintro M σ H' ⟨left, lots, rs, pl, pf, w2, hL, hA, hne, h20, rfl⟩
    refine (et_test (ev_neNilG (ev_var (i := 2) w2 rfl) (shaped_list left))) H' (Same.refl H') _ fun H3 e3 => ?_
    have w3 := w2.mono e3
    have hA3 := hA.mono e3
    clear w2 hA
    cases left with
    | nil =>
      rw [if_neg (by simp [iL])]
      obtain ⟨v, ev, rfl, hp, _, _⟩ := w3.get (i := 3) rfl
      exact ⟨.ref pf, ev, q pf H3 rs lots hL hA3 ((w3.wr 3 _ rfl rfl pf (by simp [Ct.adr])).elim (fun z => by simp at z) id) w3.fr0 hp⟩
    | cons x0 lt =>
      rw [if_pos (by rfl)]
      refine ⟨fun σ H' => ∃ (left : List Int) (lots : List (List Int)) (rs : List Addr) (pl pf : Addr), Wd K E.C_Trade [] [] H H' σ [.d (pairsD ps), .d (row l), .l pl (iL left), refsL pf rs, .u, .u, .u, .u, .u] ∧ Lots ps l left lots ∧ LotsAt H' rs lots ∧ (∀ r ∈ rs, r ≠ pl ∧ r ≠ pf) ∧ rs.length + left.length ≤ 20 ∧ left.length < (x0 :: lt).length, ?_, ?_⟩
      · rintro σ' H'' ⟨left, lots, rs, pl, pf, h1, h2, h3, h4, h5, h6⟩
        exact ⟨_, h6, left, lots, rs, pl, pf, h1, h2, h3, h4, h5, rfl⟩
      · generalize hlf : (x0 :: lt) = left at w3 hL h20
        have hx0 : x0 ∈ left := by rw [← hlf]; exact List.mem_cons_self
        have hat : atI (iL left) (0 : Int) = some (.int x0) := by rw [← hlf]; exact atI_nat (j := 0) rfl
        have w4 : Wd K E.C_Trade [pl, pf] [] H3 H3 σ [.d (pairsD ps), .d (row l), .l pl (iL left), refsL pf rs, .u, .u, .u, .u, .u] := w3.re
        refine q_unpNN w4 (en_lst (ed_cons (ev_ixL (ev_var (i := 2) w4 rfl) ev_int hat) ed_nil) (by simp)) (en_lst (ed_cons (ev_ixL (ev_var (i := 2) w4 rfl) ev_int hat) ed_nil) (by simp)) fun pa pb σ5 H5 w5 => ?_
        refine s_seq ⟨fun M σ H' => ∃ (lot wt : List Int) (pa pb : Addr) (c6 c7 c8 : Ct), Wd K E.C_Trade [pl, pf] [] H3 H' σ [.d (pairsD ps), .d (row l), .l pl (iL left), refsL pf rs, .l pa (iL lot), .l pb (iL wt), c6, c7, c8] ∧ Bfs ps left x0 lot wt ∧ wt.length ≤ lot.length ∧ M = wt.length + (left.length - lot.length),
          ⟨_, [x0], [x0], pa, pb, _, _, _, w5, Bfs.start hx0, Nat.le_refl _, rfl⟩, ?_⟩
        clear w5
        rintro M σ6 H6 ⟨lot, wt, pa, pb, c6, c7, c8, w6, hb, hwl, rfl⟩
        refine (et_test (ev_neNilG (ev_var (i := 5) w6 rfl) (shaped_list wt))) H6 (Same.refl H6) _ fun H7 e7 => ?_
        have w7 := w6.mono e7
        clear w6
        have hle := hb.le
        cases wt with
        | nil =>
          rw [if_neg (by simp [iL])]
          refine q_appO (i := 3) (j := 4) w7 rfl rfl (by omega) fun H8 w8 => ?_
          have w8' : Wd K E.C_Trade [pl, pf] [] H3 H8 σ6 [.d (pairsD ps), .d (row l), .l pl (iL left), refsL pf (rs ++ [pa]), .l pa (iL lot), .l pb (iL []), c6, c7, c8] := w8
          refine s_asgN w8' (en_lcS (l := left) (mk := PyData.int) w8' (ev_lend (ev_var (i := 2) w8' rfl)) (fun x => !decide (x ∈ lot)) PyData.int (by omega) (fun x hx σ1 H1 w1 => et_test (ev_notInL (ev_var (i := 8) w1 rfl) (ev_var (i := 4) w1 rfl))) (fun x hx σ1 H1 w1 _ => ev_var (i := 8) w1 rfl)) fun pl' σ9 H9 hpl' w9 => ?_
          rw [kept_int] at w9
          have w9' : Wd K E.C_Trade [pl, pf] [] H3 H9 σ9 [.d (pairsD ps), .d (row l), .l pl' (iL (left.filter fun x => !decide (x ∈ lot))), refsL pf (rs ++ [pa]), .l pa (iL lot), .l pb (iL []), c6, c7, c8] := w9
          clear w9 w8 w8'
          have hpa : H9 pa = some (.lst (lot.map V.int)) := by
            obtain ⟨v, _, _, xs, h1, h2⟩ := w9'.get (i := 4) rfl
            rw [h2.iL_of] at h1
            exact h1
          have n1 : pa ≠ pl' := fun z => by
            have := w9'.dj 4 2 _ _ pa rfl rfl (by simp [Ct.adr]) (by simp [Ct.adr, z])
            rcases this with z | ⟨z, _⟩
            · cases z
            · cases z
          have n2 : pa ≠ pf := fun z => by
            have := w9'.dj 4 3 _ _ pa rfl rfl (by simp [Ct.adr]) (by simp [Ct.adr, z])
            rcases this with z | ⟨z, _⟩
            · cases z
            · cases z
          have hlt : (left.filter fun x => !decide (x ∈ lot)).length < left.length := List.length_filter_lt_length_iff_exists.mpr ⟨x0, hx0, by simp [hb.h0]⟩
          have wo := ((((w3.un w9').drop 4).drop 5).drop 6).drop 7 |>.drop 8
          refine ⟨left.filter fun x => !decide (x ∈ lot), lots ++ [lot], rs ++ [pa], pl', pf, wo, hL.step hb, (hA3.fr w9'.fr fun r hr => ?_).snoc hpa, fun r hr => ?_, ?_, ?_⟩
          · obtain ⟨z1, z2⟩ := hne r hr
            simp [z1, z2]
          · rcases List.mem_append.mp hr with hr | hr
            · exact ⟨fun z => hA3.some r hr (by rw [z]; exact hpl'), (hne r hr).2⟩
            · rw [List.mem_singleton.mp hr]
              exact ⟨n1, n2⟩
          · rw [List.length_append, List.length_singleton]
            omega
          · exact hlt
        | cons h t =>
          rw [if_pos (by rfl)]
          have hms := hb.step (hL.nd)
          have hle2 := hms.le
          rw [List.length_cons] at hwl
          rw [List.length_append] at hle2
          refine ⟨fun σ H' => ∃ (pa pb : Addr) (c6 c7 c8 : Ct), Wd K E.C_Trade [pl, pf] [] H3 H' σ [.d (pairsD ps), .d (row l), .l pl (iL left), refsL pf rs, .l pa (iL (lot ++ moreL ps left lot h)), .l pb (iL (t ++ moreL ps left lot h)), c6, c7, c8], ?_, ?_⟩
          · rintro σ' H'' ⟨pa, pb, c6, c7, c8, w8⟩
            refine ⟨_, ?_, _, _, pa, pb, c6, c7, c8, w8, hms, ?_, rfl⟩
            · rw [List.length_append, List.length_append, List.length_cons]
              omega
            · rw [List.length_append, List.length_append]
              omega
          · refine q_unpDN (i := 6) (j := 5) w7 (ev_ixL (ev_var (i := 5) w7 rfl) ev_int (atI_nat (j := 0) rfl)) (en_cast (en_slL (lo := some ((1 : Nat) : Int)) (ev_var (i := 5) w7 rfl) (eo_some (ev_int (K := K) (C := E.C_Trade))) eo_none) (es := iL t) (by rw [cut_from]; rfl)) fun pb2 σ8 H8 w8 => ?_
            have w8' : Wd K E.C_Trade [pl, pf] [] H3 H8 σ8 [.d (pairsD ps), .d (row l), .l pl (iL left), refsL pf rs, .l pa (iL lot), .l pb2 (iL t), .d (.int h), c7, c8] := w8
            refine q_asgN w8' (en_cast (en_lcS (l := left) (mk := PyData.int) w8' (ev_lend (ev_var (i := 2) w8' rfl)) (fun x => !decide (x ∈ lot) && !mayL ps h x) PyData.int (by omega) (fun x hx σ1 H1 w1 => et_and (et_test (ev_notInL (ev_var (i := 8) w1 rfl) (ev_var (i := 4) w1 rfl))) fun _ => et_not (et_truB (ev_call (ea_cons (ev_var (i := 0) w1 rfl) (ea_cons (ev_var (i := 6) w1 rfl) (ea_cons (ev_var (i := 8) w1 rfl) ea_nil))) ⟨_, _, _, rfl, rfl⟩))) (fun x hx σ1 H1 w1 _ => ev_var (i := 8) w1 rfl)) (es := iL (moreL ps left lot h)) ?_) fun pm σ9 H9 _ w9 => ?_
            · rw [kept_int]
              unfold moreL
              congr 1
              exact List.filter_congr fun x hx => by rw [mayL_eq hok]
            · have w9' : Wd K E.C_Trade [pl, pf] [] H3 H9 σ9 [.d (pairsD ps), .d (row l), .l pl (iL left), refsL pf rs, .l pa (iL lot), .l pb2 (iL t), .d (.int h), .l pm (iL (moreL ps left lot h)), c8] := w9
              refine s_unpNN w9' (en_cast (en_addLL (ev_var (i := 4) w9' rfl) (ev_var (i := 7) w9' rfl) (by rw [iL_len, iL_len]; omega)) (iL_app _ _).symm) (en_cast (en_addLL (ev_var (i := 5) w9' rfl) (ev_var (i := 7) w9' rfl) (by rw [iL_len, iL_len]; omega)) (iL_app _ _).symm) fun p1 p2 σa Ha wa => ⟨p1, p2, _, _, _, wa⟩
end
end K1
set_option maxRecDepth 10000000
namespace K1
open PySem PySem.Spec PyProof.Rows L2 Pt
local macro_rules
  | `(tactic| walk_at "sz") => `(tactic| first
    | omega
    | decide
    | (simp; omega)
    | (simp [iL, row, pairsD]; omega))
  | `(tactic| walk_at "ea") => `(tactic| first
    | (with_reducible exact ea_nil)
    | ((with_reducible apply ea_consL); (focus (walk_at "ev")); (focus (walk_at "ea")))
    | ((with_reducible apply ea_consS); (focus (walk_at "ev")); (focus (walk_at "ea")))
    | ((with_reducible apply ea_cons); (focus (walk_at "ev")); (focus (walk_at "ea")))
    | ((with_reducible apply ea_consN); (focus (walk_at "en")); (focus (walk_at "ea"))))
  | `(tactic| walk_at "ed") => `(tactic| first
    | (with_reducible exact ed_nil)
    | ((with_reducible apply ed_cons); (focus (walk_at "ev")); (focus (walk_at "ed"))))
  | `(tactic| walk_at "en") => `(tactic| first
    | ((with_reducible apply en_lst); (focus (walk_at "ed")); (focus (simp)))
    | ((with_reducible apply en_listT); (focus (walk_at "ev")))
    | ((with_reducible apply en_addL); (focus (walk_at "ev")); (focus (walk_at "en")); (focus (walk_at "sz")))
    | ((with_reducible apply en_addN); (focus (walk_at "en")); (focus (walk_at "en")); (focus (walk_at "sz")))
    | ((with_reducible apply en_slL); (focus (walk_at "ev")); (focus (walk_at "eo")); (focus (walk_at "eo"))))
  | `(tactic| walk_at "eo") => `(tactic| first
    | (with_reducible exact eo_none)
    | ((with_reducible apply eo_some); (focus (walk_at "ev"))))
  | `(tactic| walk_at "et") => `(tactic| first
    | (with_reducible exact et_yes)
    | ((with_reducible apply et_test); (focus (walk_at "ev")))
    | ((with_reducible apply et_B); (focus (walk_at "ev")))
    | ((with_reducible apply et_truB); (focus (walk_at "ev")))
    | ((with_reducible apply et_truT); (focus (walk_at "ev")))
    | ((with_reducible apply et_not); (focus (walk_at "et")))
    | ((with_reducible apply et_and); (focus (walk_at "et")); (focus (intro _; walk_at "et")))
    | ((with_reducible apply et_or); (focus (walk_at "et")); (focus (intro _; walk_at "et"))))
  | `(tactic| walk_at "var") => `(tactic| first
    | ((with_reducible apply ev_varD); (focus (assumption)); (focus (rfl)))
    | ((with_reducible apply ev_varL); (focus (assumption)); (focus (rfl)))
    | ((with_reducible apply ev_varS); (focus (assumption)); (focus (rfl)))
    | ((with_reducible apply ev_varT); (focus (assumption)); (focus (rfl)))
    | ((with_reducible apply ev_varH); (focus (assumption)); (focus (rfl)))
    | ((with_reducible apply ev_varZ); (focus (assumption)); (focus (rfl))))
  | `(tactic| walk_at "ev") => `(tactic| first
    | walk_at "var"
    | (with_reducible exact ev_int)
    | (with_reducible exact ev_bl)
    | (with_reducible exact ev_str)
    | (with_reducible exact ev_non)
    | ((with_reducible apply ev_letters); (focus (walk_at "ev")))
    | ((with_reducible apply ev_pairs); (focus (walk_at "ev")))
    | ((with_reducible apply ev_addI); (focus (walk_at "ev")); (focus (walk_at "ev")))
    | ((with_reducible apply ev_addT); (focus (walk_at "ev")); (focus (walk_at "ev")); (focus (walk_at "sz")))
    | ((with_reducible apply ev_i0); (focus (walk_at "ev")); (focus (walk_at "ev")); (focus (first | exact fun _ => .int _ | exact fun _ => .bl _)))
    | ((with_reducible apply ev_iC); (focus (walk_at "ev")); (focus (walk_at "ev")); (focus (first | assumption | walk_at "cond")); (focus (exact fun _ => .int _)))
    | ((with_reducible apply ev_chain); (focus (walk_at "ev")); (focus (walk_at "ev")); (focus (walk_at "ev")))
    | ((with_reducible apply ev_eqI); (focus (walk_at "ev")); (focus (walk_at "ev")))
    | ((with_reducible apply ev_neI); (focus (walk_at "ev")); (focus (walk_at "ev")))
    | ((with_reducible apply ev_eqR); (focus (walk_at "ev")); (focus (walk_at "ev")))
    | ((with_reducible apply ev_neR); (focus (walk_at "ev")); (focus (walk_at "ev")))
    | ((with_reducible apply ev_isN); (focus (walk_at "ev")))
    | ((with_reducible apply ev_notN); (focus (walk_at "ev")))
    | ((with_reducible apply ev_in2); (focus (walk_at "ev")); (focus (walk_at "ev")); (focus (walk_at "ev")))
    | ((with_reducible apply ev_inP); (focus (walk_at "ev")); (focus (walk_at "ev")))
    | ((with_reducible apply ev_tup); (focus (walk_at "ed")); (focus (simp)))
    | ((with_reducible apply ev_lenT); (focus (walk_at "ev")))
    | ((with_reducible apply ev_lenL); (focus (walk_at "ev")))
    | ((with_reducible apply ev_lenS); (focus (walk_at "ev")))
    | ((with_reducible apply ev_lenN); (focus (walk_at "en")))
    | ((with_reducible apply ev_max2); (focus (walk_at "ev")); (focus (walk_at "ev")))
    | ((with_reducible apply ev_min2); (focus (walk_at "ev")); (focus (walk_at "ev")))
    | ((with_reducible apply ev_int1); (focus (walk_at "ev")))
    | ((with_reducible apply ev_tupleL); (focus (walk_at "ev")))
    | ((with_reducible apply ev_tupleN); (focus (walk_at "en")))
    | ((with_reducible apply ev_countT); (focus (walk_at "ev")); (focus (walk_at "ev")))
    | ((with_reducible apply ev_andV); (focus (walk_at "ev")); (focus (intro _; walk_at "ev")))
    | ((with_reducible apply ev_orV); (focus (walk_at "ev")); (focus (intro _; walk_at "ev")))
    | ((with_reducible apply ev_notV); (focus (walk_at "ev"))))
section
variable {K : PySem.W.Frag} {C : Addr} {H H' H1 H2 : Hp} {v w x y : V} {vs : List V} {d e : PyData} {ds es : List PyData}
variable {S : List Addr} {G : List (V × PyData)} {H0 : Hp} {σ : L2.St} {Γ : List Ct} {i j k l : Nat} {c : Ct} {te ta tb tc tl ty td tv : TE} {t u : TT}
variable {D : Ends} {tu tw tz : TS} {p q f : Addr} {E : XK}
/-- [e for x in L], L a list of lists -/
theorem en_lcLots {rs : List Addr} {lots : List (List Int)} (w : Wd K C S G H0 H σ Γ) (hp : H p = some (.lst (rs.map V.ref))) (hr : LotsAt H rs lots) (g : List Int → PyData) (hz : lots.length < 10000000)
    (he : ∀ l ∈ lots, ∀ r σ1 H1, H1 r = some (.lst (l.map V.int)) → Wd K C S G H0 H1 σ1 ((Γ.set j .u).set j (.r (.ref r))) → EvC K C te σ1 H1 (.d (g l))) : EvN K C (tLc (iList K (tC (.ref p))) (gName j) tYes te [j]) σ H (lots.map g) := fun H1 e1 Q q => by
  have hp1 := e1 _ _ hp
  have hr1 := hr.mono e1
  have len : (rs.map V.ref).length = lots.length := by rw [List.length_map, hr.length]
  refine ⟨p, rfl, ⟨rs.map V.ref, SqL.of hp1⟩, fun Dl hD => lc_list (xs := rs.map V.ref) (fun k H' => Cw K H1 Dl (kept (fun _ => true) g (lots.take k)) H') (by rw [List.take_zero]; exact Cw.start hD) (fun k H' _ c => SqL.of (c.2.1 _ _ hp1)) (fun k x H' hk c => ?_) (fun H' c => ?_)⟩
  · have hk' : k < lots.length := by rw [← len]; exact (List.getElem?_eq_some_iff.mp hk).1
    have ek : lots[k]? = some lots[k] := List.getElem?_eq_getElem hk'
    obtain ⟨r, h1, h2⟩ := hr1.get ek
    have ex : x = .ref r := by rw [List.getElem?_map, h1] at hk; exact (Option.some.inj hk).symm
    subst ex
    have w2 : Wd K C S G H0 H1 ((wipe σ [j]).set j (some (.ref r))) ((Γ.set j .u).set j (.r (.ref r))) := ((w.mono e1).wiped j).set j (c := .r (.ref r)) rfl
    have m : lots[k] ∈ lots := List.getElem_mem hk'
    show wipe ((wipe σ [j]).set j (some (.ref r))) [j] = wipe σ [j] ∧ _
    refine ⟨wipe1 σ j _, ?_⟩
    have z := cw_turn (C := C) (te := te) (t := tYes) (b := true) (d := g lots[k]) c (Nat.lt_of_le_of_lt kept_len hz) et_yes fun _ => he _ m r _ _ h2 w2
    rw [if_pos rfl] at z
    rw [← (kept_step (f := fun _ => true) (g := g) ek).trans (if_pos rfl)] at z
    exact z
  · rw [len, List.take_length, kept_all] at c
    obtain ⟨c1, c2, acc, c3, c4⟩ := c
    exact q Dl H' c1 c2 ⟨rfl, acc, c3, c4⟩
theorem ev_inR {r : Addr} {k : Int} {l : List Int} (ha : EvC K C ta σ H (.d (.int k))) (hb : EvC K C tb σ H (.r (.ref r))) (hr : H r = some (.lst (l.map V.int))) : EvC K C (tOp (rIn K false) ta tb) σ H (.d (.bool (decide (k ∈ l)))) := fun H1 e1 Q q =>
  ha H1 e1 _ fun x H2 e2 a2 => hb H2 (e1.trans e2) _ fun y H3 e3 a3 => by
    rw [Td.int_of a2, show y = .ref r from a3]
    refine ⟨r, _, rfl, .inl (SqL.of (e3 _ _ (e2 _ _ (e1 _ _ hr)))), rfl, ?_, ?_⟩
    · rw [List.all_map]
      exact List.all_eq_true.mpr fun _ _ => rfl
    · have z : inV (.int k) (l.map V.int) = decide (k ∈ l) := by
        unfold inV
        rw [List.any_map]
        have e1 : ∀ m : Int, eqV (.int m) (.int k) = decide (k = m) := fun m => by
          show (m == k) = decide (k = m)
          by_cases q : k = m
          · subst q; simp
          · simp [q, Ne.symm q]
        rw [show ((fun y => eqV y (.int k)) ∘ V.int) = fun m => decide (k = m) from funext e1]
        exact any_mem k l
      rw [if_neg Bool.false_ne_true, z]
      exact q _ H3 (e2.trans e3) (.bl _)
theorem en_lcT2 {α : Type} {l : List α} {mk : α → PyData} (w : Wd K C S G H0 H σ Γ) (hl : EvC K C tl σ H (.d (.tuple (l.map mk)))) (f : α → Bool) (g : α → PyData) (hz : l.length < 10000000)
    (ht : ∀ x ∈ l, ∀ σ1 H1, Same H H1 → Wd K C S G H0 H1 σ1 ((Γ.set j .u).set j (.d (mk x))) → EvT t σ1 H1 (f x)) (he : ∀ x ∈ l, ∀ σ1 H1, Wd K C S G H0 H1 σ1 ((Γ.set j .u).set j (.d (mk x))) → f x = true → EvC K C te σ1 H1 (.d (g x))) :
    EvN K C (tLc (iTup K tl) (gName j) t te [j]) σ H (kept f g l) := fun H1 e1 Q q => hl H1 e1 _ fun v H2 e2 a => by
  obtain ⟨p, xs, rfl, s, td⟩ := Td.tup_of a
  have len : xs.length = l.length := by rw [td.length, List.length_map]
  refine ⟨p, rfl, ⟨xs, s.sq⟩, fun Dl hD => lc_tup (xs := xs) (fun k H' => Cw K H2 Dl (kept f g (l.take k)) H') (by rw [List.take_zero]; exact Cw.start hD) (fun k H' _ c => ((Tx.of c.2.1).sqF s).sq) (fun k x H' hk c => ?_) (fun H' c => ?_)⟩
  · have hk' : k < l.length := by rw [← len]; exact (List.getElem?_eq_some_iff.mp hk).1
    have ek : l[k]? = some l[k] := List.getElem?_eq_getElem hk'
    obtain ⟨d, h1, h2⟩ := td.get' hk
    have ed : d = mk l[k] := by rw [List.getElem?_map, ek] at h1; exact (Option.some.inj h1).symm
    subst ed
    have w2 : Wd K C S G H0 H2 ((wipe σ [j]).set j (some x)) ((Γ.set j .u).set j (.d (mk l[k]))) := ((w.mono (e1.trans e2)).wiped j).set j h2
    have m : l[k] ∈ l := List.getElem_mem hk'
    show wipe ((wipe σ [j]).set j (some x)) [j] = wipe σ [j] ∧ _
    refine ⟨wipe1 σ j _, ?_⟩
    have z := cw_turn (C := C) (te := te) (d := g l[k]) c (Nat.lt_of_le_of_lt kept_len hz) (ht _ m _ _ (e1.trans e2) w2) (he _ m _ _ w2)
    rw [← kept_step ek] at z
    exact z
  · rw [len, List.take_length] at c
    obtain ⟨c1, c2, acc, c3, c4⟩ := c
    exact q Dl H' (e2.free c1) (e2.trans c2) ⟨rfl, acc, c3, c4⟩
/-- sorted of some list or other, when all give the same -/
theorem en_sortAny (ok : List PyData → Prop) (h : ∀ H1, Same H H1 → ∀ Q : VK, (∀ p H2 ds, ok ds → H1 p = none → Same H1 H2 → CtAt K C H2 (.ref p) (.l p ds) → Q (.ref p) H2) → te σ H1 Q)
    (hk : ∀ ds, ok ds → PySem.W.AllAlike ds ∧ PySem.W.Sortable ds ∧ (∀ d ∈ ds, d.depth ≤ 8) ∧ sortedD ds = es) : EvN K C (tCB (rSortD K) (tCons te tNil)) σ H es := fun H1 e1 Q q => h H1 e1 _ fun p H2 ds o hp e2 a => by
  obtain ⟨k1, k2, k3, rfl⟩ := hk ds o
  obtain ⟨_, xs, s, t⟩ := a
  exact ⟨p, xs, ds, rfl, SqL.of s, t, k1, .inl k2, k3, fun ys l ty hl => q l _ (e2.free hl) (e2.trans (same_new hl)) (new_l hl ty)⟩
theorem eqvAll_same : ∀ L : List (List Int), PyData.eqv (.list (L.map row)) (.list (L.map row)) = true := fun L => by
  simp only [PyData.eqv]
  exact eqvAll_rows L
theorem ev_neSame {p q : Addr} {L : List (List Int)} (ha : EvC K C ta σ H (.l p (L.map row))) (hb : EvC K C tb σ H (.l q (L.map row))) : EvC K C (tOp (rNeD K) ta tb) σ H (.d (.bool false)) :=
  ev_op2 ha hb fun H1 _ x y a1 a2 Q k => by
    obtain ⟨rfl, xs, s, t⟩ := a1
    obtain ⟨rfl, ys, s', t'⟩ := a2
    refine ⟨_, _, .lst (SqL.of s) (TdAll.dp _ _ t), .lst (SqL.of s') (TdAll.dp _ _ t'), shaped_rows L, shaped_rows L, ?_⟩
    rw [eqvAll_same]
    exact k _ H1 (Same.refl H1) (.bl _)
theorem ev_isiL {p : Addr} (h : EvC K C te σ H (.l p ds)) : EvC K C (tCB (rIsi K) (tCons te (tCons (tC (.ty "list")) tNil))) σ H (.d (.bool true)) := fun H1 e1 Q q =>
  h H1 e1 _ fun v H2 e2 a => by
    obtain ⟨rfl, xs, s, t⟩ := a
    exact ⟨.ref p, .ty "list", _, _, true, rfl, .ty "list", .base (.lst s), kit_ty (by decide +kernel), q _ H2 e2 (.bl true)⟩
/-- a, b = draw, () -/
theorem q_parDrT {m : Nat} {b : Int} (w : Wd K C S G H0 H σ Γ) (hi : Γ[m]? = some (.h p q)) (hb : EvC K C tb σ H (.d (.int b))) (h1 : 1 ≤ b) (h2 : b ≤ 1000000)
    (k : ∀ (r : Int) σ1 H1, 0 ≤ r → r < b → Wd K C S G H0 H1 σ1 ((Γ.set i (.d (.int r))).set j (.d (row []))) → tz D σ1 H1) :
    tSeq (tPar i j (tCons (tCall (spH K C) [] E (tCons (tVar m) (tCons tb tNil))) (tCons (tTupF tNil) tNil))) tz D σ H :=
  dr_next w hi hb h1 h2 fun r H1 r0 r1 w1 => (ev_tup ed_nil (Nat.zero_le _) : EvC K C (tTupF tNil) σ H1 (.d (row []))) H1 (Same.refl H1) _ fun v H2 e2 a2 => ⟨.int r, v, rfl, k r _ H2 r0 r1 (((w1.mono e2).set i (v := .int r) (c := .d (.int r)) (Td.int r)).set j (c := .d (row [])) a2)⟩
end
theorem leR_anti (a b : List Int) (h1 : leR a b = true) (h2 : leR b a = true) : a = b := by
  unfold leR at h1 h2
  rw [decide_eq_true_eq] at h1 h2
  exact List.le_antisymm (as := a) (bs := b) h1 h2
theorem sort_perm {L M : List (List Int)} (h : L.Perm M) : L.mergeSort leR = M.mergeSort leR :=
  List.Perm.eq_of_pairwise (le := fun a b => leR a b = true) (fun a b _ _ => leR_anti a b) (List.pairwise_mergeSort leR_trans leR_total L) (List.pairwise_mergeSort leR_trans leR_total M) ((List.mergeSort_perm L leR).trans (h.trans (List.mergeSort_perm M leR).symm))
theorem alike_bar {n : Int} {ps : List (Int × Int)} (hok : PairsOk n ps) {l m : List Int} (h : Alike ps l m) : isN (findBar n ps l m) = true := let ⟨_, wk⟩ := h; noBar_of_walk hok wk
theorem flat_take {L : List (List Int)} (k : Nat) : (L.take k).flatten.length ≤ L.flatten.length := by
  have h : L.flatten = (L.take k).flatten ++ (L.drop k).flatten := by rw [← List.flatten_append, List.take_append_drop]
  rw [h, List.length_append]
  omega
theorem alike_ok {n : Int} {ps : List (Int × Int)} {l m : List Int} (h : Alike ps l m) (r : rowOk n l) : rowOk n m := ⟨by rw [← (alike_perm h).length_eq]; exact r.1, fun x hx => r.2 x ((alike_perm h).mem_iff.mpr hx)⟩
section
variable {P : Program} {w : World} {K : PySem.W.Frag} {mg : Str → Option Value} {base : Heap}
/-- a, b = Trade(..), a row drawn -/
theorem q_unpTD {C : Addr} {S : List Addr} {G : List (V × PyData)} {H0 H : Hp} {σ : L2.St} {Γ : List Ct} {D : Ends} {tz : TS} {i j m : Nat} {p q : Addr} {ta : TE} {ts : TA} {E : XK} {A : List Ag → Prop} {R : List Ag → PyData → Prop} {as : List Ag} {n : Int} {ps : List (Int × Int)} (w : Wd K C S G H0 H σ Γ) (ha : EvC K C ta σ H (.t n ps)) (hi : Γ[m]? = some (.h p q)) (hs : ∀ H1, Wd K C S G H0 H1 σ Γ → EvA K C ts σ H1 as) (hA : A as)
    (k : ∀ d σ1 H1, R as d → Wd K C S G H0 H1 σ1 ((Γ.set i (.t n ps)).set j (.d d)) → tz D σ1 H1) : tSeq (tAsg (tTupF (tCons ta (tCons (tCall (spDr K C A R) [] E (tCons (tVar m) ts)) tNil))) (gTup K 2 (gCons (gName i) (gCons (gName j) gNil)))) tz D σ H :=
  ha H (Same.refl H) _ fun v1 H1 e1 a1 => dr_callF (w.mono e1) hi (hs H1 (w.mono e1)) hA fun v2 d H2 hR keep w2 td => ⟨by show 2 ≤ sizeLine; decide, fun T o hT ho => ⟨T, _, rfl, (show SqF _ T _ from ⟨o, upd_same, ho⟩).sq, rfl, v1, [v2], rfl, v2, [], rfl, rfl, k d _ _ hR (((w2.set i (c := .t n ps) (keep (.t n ps) v1 rfl a1)).set j (c := .d d) td).mono (same_new hT))⟩⟩
def spLaw (K : PySem.W.Frag) : Sp := fun vs H Q _ => ∃ (a : Addr) (ns : List Int), vs = [.ref a] ∧ Fz K H a (ns.map V.int) ∧ ns.length ≤ 63 ∧ ∀ H', Q (.bl true) H'
set_option maxHeartbeats 4000000 in
theorem ok_law (E : Nv K mg) : FnOk P w K mg base CX0 40 E.a_law E.d_law ["_law_script"] (spLaw K) := by
  refine E.F_law.ok sc_law (fun vs H Q _ h => ?_) (fun cdv A outer s H vs Q _ hr h => ?_)
  · obtain ⟨_, _, rfl, _⟩ := h
    rfl
  · obtain ⟨a, cells, rfl, hz, hl, q⟩ := h
    refine ⟨_, (pss_cons (ps_set (i := 1) sc_law.nd rfl (.inl rfl) (pe_call (ok__law_mix E) (hr.mono (by first | decide | omega)) (by rfl) E.m__law_mix E.F__law_mix.kp E.b__law_mix .nil pass0 (pa_cons (pv 0) (pa_cons pe_int pa_nil))))
      (pss_cons (ps_set (i := 2) sc_law.nd rfl (.inl rfl) (pe_op (op_addK K) pe_int (pe_call (ok__law_next E) (hr.mono (by first | decide | omega)) (by rfl) E.m__law_next E.F__law_next.kp E.b__law_next .nil pass0 (pa_cons (pv 1) (pa_cons pe_int pa_nil)))))
      (pss_cons (ps_set (i := 3) sc_law.nd rfl (.inl rfl) (pe_call (ok__law_pairs E) (hr.mono (by first | decide | omega)) (by rfl) E.m__law_pairs E.F__law_pairs.kp E.b__law_pairs .nil pass0 (pa_cons (pv 1) (pa_cons (pv 2) pa_nil))))
      (pss_cons (ps_asg (pe_tupF (pa_cons (pe_make E.mk_Trade (ok_Trade___init__ E) (hr.mono (by first | decide | omega)) (by rfl) E.m_Trade E.b_Trade___init__ .nil pass0 (pa_cons (pv 2) (pa_cons (pv 3) pa_nil))) (pa_cons (pe_call (ok__law_row E) (hr.mono (by first | decide | omega)) (by rfl) E.m__law_row E.F__law_row.kp E.b__law_row .nil pass0 (pa_cons (pv 1) (pa_cons (pv 2) (pa_cons pe_int pa_nil)))) pa_nil))) (pg_tupK K (n := 2) rfl (pgs_cons (pg_name (i := 4) sc_law.nd rfl (.inr rfl)) (pgs_cons (pg_name (i := 5) sc_law.nd rfl (.inr rfl)) pgs_nil))))
      (pss_cons (ps_set (i := 6) sc_law.nd rfl (.inl rfl) (pe_callB (call_sortK K hr.units12) (by rfl) E.n_sorted (by decide +kernel) (pa_cons (pe_lc (own := [("_law_lot", 11)]) (g := gName 11) (by rfl) sc_law.nd (pi_listK K (pe_call (ok__law_lots E) (hr.mono (by first | decide | omega)) (by rfl) E.m__law_lots E.F__law_lots.kp E.b__law_lots .nil pass0 (pa_cons (pv 3) (pa_cons (pv 5) pa_nil)))) (blkOk_by (own := [("_law_lot", 11)]) (N := N_law) (sc := defScope s_law) (by decide +kernel)) (fun _ _ _ _ _ => (pg_name (i := 11) sc_law.nd rfl (Or.inr rfl))) (fun _ _ _ _ _ => pts_nil) (fun _ _ _ _ _ => (pe_call (ok_least E) (hr.mono (by first | decide | omega)) (by rfl) E.m_least E.F_least.kp E.b_least .nil pass0 (pa_cons (pv 4) (pa_cons (pe_callTy (call_tupleK K) (by rfl) E.n_tuple (by decide +kernel) (pa_cons (pe_lc (own := [("_law_x", 12)]) (g := gName 12) (by rfl) sc_law.nd (pi_tupK K (pv 5)) (blkOk_by (own := [("_law_x", 12)]) (N := N_law) (sc := ({ kind := .function, names := [(".0", .local), ("_law_lot", .cell), ("least", .globalImplicit), ("tuple", .globalImplicit), ("_law_row_here", .cell), ("_law_told", .cell)], isGenerator := false, isCoroutine := false } : Scope)) (by decide +kernel)) (fun _ _ _ _ _ => (pg_name (i := 12) sc_law.nd rfl (Or.inl rfl))) (fun _ _ _ _ _ => (pts_one (pt_cmpR (op_inK K) (pv 12) (pv 11) (by with_unfolding_all rfl)))) (fun _ _ _ _ _ => (pv 12))) pa_nil)) pa_nil))))) pa_nil)))
      (pss_cons (ps_set (i := 7) sc_law.nd rfl (.inl rfl) (pe_call (ok_parts E) (hr.mono (by first | decide | omega)) (by rfl) E.m_parts E.F_parts.kp E.b_parts .nil pass0 (pa_cons (pv 4) (pa_cons (pv 5) pa_nil))))
      (pss_cons (ps_if (PW.pt (pw_or (pt_cmpR (op_neK K hr.units) (pv 7) (pv 6) (nomark _)) (pw_or1 (pt_not (pt_truK K (pe_callB (call_isiK K) (by rfl) E.n_isinstance (by decide +kernel) (pa_cons (pv 7) (pa_cons (pe_bltn (v := .ty "list") (by rfl) E.n_list (by decide +kernel) rfl) pa_nil))) (fun _ => rfl)))))) (pss_one (ps_ret pe_bl)) pss_nil)
      (pss_cons (ps_par (i := 8) (j := 9) (by rfl) sc_law.nd rfl rfl (by decide) rfl rfl (pa_cons (pe_call (ok__law_next E) (hr.mono (by first | decide | omega)) (by rfl) E.m__law_next E.F__law_next.kp E.b__law_next .nil pass0 (pa_cons (pv 1) (pa_cons (pe_callB (call_max2' rfl) (by rfl) E.n_max (by decide +kernel) (pa_cons pe_int (pa_cons (pe_callB (call_lenK K) (by rfl) E.n_len (by decide +kernel) (pa_cons (pv 7) pa_nil)) pa_nil))) pa_nil))) (pa_cons (pe_tupF pa_nil) pa_nil)) (by rfl))
      (pss_cons (ps_for PassesOwn.never rfl (pi_listK K (pe_op (op_addK K) (pe_slice (sl_K K) (pv 7) (po_some (pv 8)) po_none) (pe_slice (sl_K K) (pv 7) po_none (po_some (pv 8))))) (pg_name (i := 10) sc_law.nd rfl (.inl rfl))
      (pss_one (ps_set (i := 9) sc_law.nd rfl (.inl rfl) (pe_op (op_addK K) (pv 9) (pv 10)))))
      (pss_one (ps_ret (pe_call (ok_alike E) (hr.mono (by first | decide | omega)) (by rfl) E.m_alike E.F_alike.kp E.b_alike .nil pass0 (pa_cons (pv 4) (pa_cons (pv 5) (pa_cons (pv 9) pa_nil))))))))))))))), ?_⟩
    have w0 : Wd K E.C_Trade [] [] H H _ [.z a (iL cells), .u, .u, .u, .u, .u, .u, .u, .u, .u, .u, .u, .u] := Wd.start1 (N := N_law) (c1 := .z a (iL cells)) ⟨rfl, _, hz, TdAll.of_iL cells⟩
    refine q_mix w0 rfl hl fun p c σ1 H1 w1 => ?_
    refine q_drawAdd w1 rfl (by decide) (by decide) fun r σ2 H2 r0 r1 w2 => ?_
    generalize hn : 1 + r = n at w2
    have n1 : 1 ≤ n := by omega
    have n6 : n ≤ 6 := by omega
    have n0 : 0 ≤ n := by omega
    refine q_drawA w2 rfl (as := [.c (.d (.int n))]) (ea_cons (ev_var w2 rfl) ea_nil) ⟨n, rfl, n1, n6⟩ fun d σ3 H3 hR w3 => ?_
    obtain ⟨n', ps, e, hok, rfl⟩ := hR
    obtain rfl : n = n' := by
      simp only [List.cons.injEq, Ag.c.injEq, Ct.d.injEq, PyData.int.injEq, and_true] at e
      exact e
    have w3' : Wd K E.C_Trade [] [] H H3 σ3 [.z a (iL cells), .h p c, .d (.int n), .d (pairsD ps), .u, .u, .u, .u, .u, .u, .u, .u, .u] := w3
    refine q_unpTD (m := 1) (as := [.c (.d (.int n)), .c (.d (.int 16))]) w3' (ev_makeT (ev_var w3' rfl) (ev_var w3' rfl) n1 n6 hok) rfl (fun H4 w4 => ea_cons (ev_var (i := 2) w4 rfl) (ea_cons ev_int ea_nil)) ⟨n, 16, rfl, n1, n6, by decide, by decide⟩ fun d σ4 H4 hR w4 => ?_
    obtain ⟨n', m0, l, e, hll, hin, rfl⟩ := hR
    simp only [List.cons.injEq, Ag.c.injEq, Ct.d.injEq, PyData.int.injEq, and_true] at e
    obtain ⟨rfl, rfl⟩ := e
    have l16 : l.length ≤ 16 := by omega
    have hrow : rowOk n l := ⟨by omega, hin⟩
    have w4' : Wd K E.C_Trade [] [] H H4 σ4 [.z a (iL cells), .h p c, .d (.int n), .d (pairsD ps), .t n ps, .d (row l), .u, .u, .u, .u, .u, .u, .u] := w4
    clear w0 w1 w2 w3 w3' w4
    have hm := hang_ok hok hrow.2
    have hP := hm.parts
    have hM : ((hangL n ps l).map inM).map (fun f => l.filter f) = (hangL n ps l).map fun m => l.filter (inM m) := by rw [List.map_map]; rfl
    have hMne : ∀ r ∈ (((hangL n ps l).map fun m => l.filter (inM m)).map (leastL ps)), r ≠ [] := fun r hr => by
      obtain ⟨s, hs, rfl⟩ := List.mem_map.mp hr
      obtain ⟨m, hm', rfl⟩ := List.mem_map.mp hs
      obtain ⟨x, hx, fx⟩ := hP.ne (inM m) (List.mem_map.mpr ⟨m, hm', rfl⟩)
      exact List.ne_nil_of_mem ((alike_perm (least_alike ps (l.filter (inM m)))).mem_iff.mp (List.mem_filter.mpr ⟨hx, fx⟩))
    have hMlen : (((hangL n ps l).map fun m => l.filter (inM m)).map (leastL ps)).length ≤ 16 := by
      rw [List.length_map, List.length_map]
      have := hm.len
      omega
    have hAny : ∀ X : List (List Int), (((hangL n ps l).map fun m => l.filter (inM m)).map (leastL ps)).Perm X → Alike ps l X.flatten := fun X hX => hP.any hok (by rw [hM]; exact hX)
    have hLots : ∀ lots, Lots ps l [] lots → (((lots.map inL).map fun f => l.filter f).map (leastL ps)).Perm (((hangL n ps l).map fun m => l.filter (inM m)).map (leastL ps)) := fun lots hL => by
      rw [← hM]
      exact (hL.parts.perm hP).map _
    generalize hMM : (((hangL n ps l).map fun m => l.filter (inM m)).map (leastL ps)) = M at hMne hMlen hAny hLots
    refine q_asgN (ds := (M.mergeSort leR).map row) w4' (en_sortAny (fun ds => ∃ lots, Lots ps l [] lots ∧ ds = lots.map fun lot => row (leastL ps (l.filter (inL lot)))) (fun H1 e1 Q k => ?due1) (fun ds hds => ?due2)) fun pd σ5 H5 _ w5 => ?_
    case due1 =>
      show (tCons (tVar 3) (tCons (tVar 5) tNil)) σ4 H1 (fun vs H2 => spLots K E.C_Trade (vs ++ []) H2 _ _)
      refine (ea_cons (ev_var (i := 3) w4' rfl) (ea_cons (ev_var (i := 5) w4' rfl) ea_nil)) H1 e1 _ fun vs H2 e2 a => ⟨n, ps, l, _, by rw [List.append_nil]; exact a, hok, hin, hrow.1, rfl, fun p H3 rs lots hL hA hp e3 hpp => ?_⟩
      refine (en_lcLots (j := 11) (w4'.mono (e1.trans (e2.trans e3))) hpp hA (fun lot => row (leastL ps (l.filter (inL lot)))) ?_ fun lot hlot r σ5 H5 hr5 w5 => ?_) H3 (Same.refl H3) _ fun p' H4 hp' e4 a4 => k p' H4 _ ⟨lots, hL, rfl⟩ ((e2.trans e3).free hp') ((e2.trans e3).trans e4) a4
      · have := (hLots lots hL).length_eq
        rw [List.length_map, List.length_map, List.length_map] at this
        omega
      · exact ev_call (ea_cons (ev_var (i := 4) w5 rfl) (ea_cons (ev_d (ev_tupleN (en_lcT2 (l := l) (mk := PyData.int) w5 (ev_var (i := 5) w5 rfl) (inL lot) PyData.int (by omega) (fun x hx σ6 H6 e6 w6 => et_test (ev_inR (ev_var (i := 12) w6 rfl) (ev_var (i := 11) w6 rfl) (e6 _ _ hr5))) (fun x hx σ6 H6 w6 _ => ev_var (i := 12) w6 rfl))) rfl) ea_nil)) ⟨n, ps, l.filter (inL lot), hok, n0, n6, rowOk.sub hrow List.filter_sublist, rfl, rfl⟩
    case due2 =>
      obtain ⟨lots, hL, rfl⟩ := hds
      have hp := hLots lots hL
      have e : (lots.map fun lot => row (leastL ps (l.filter (inL lot)))) = (((lots.map inL).map fun f => l.filter f).map (leastL ps)).map row := by
        rw [List.map_map, List.map_map, List.map_map]
        rfl
      rw [e]
      refine ⟨rows_alike _, rows_sortable fun r hr => hMne r (hp.mem_iff.mp hr), fun d hd => ?_, by rw [sortedD_rows, sort_perm hp]⟩
      obtain ⟨r, _, rfl⟩ := List.mem_map.mp hd
      exact row_depth r
    have w5' : Wd K E.C_Trade [] [] H H5 σ5 [.z a (iL cells), .h p c, .d (.int n), .d (pairsD ps), .t n ps, .d (row l), .l pd ((M.mergeSort leR).map row), .u, .u, .u, .u, .u, .u] := w5
    refine q_asgN (ds := (M.mergeSort leR).map row) w5' (en_cast (en_call (ea_cons (ev_var (i := 4) w5' rfl) (ea_cons (ev_var (i := 5) w5' rfl) ea_nil)) ⟨n, ps, l, hok, n0, n6, hrow, rfl, rfl⟩) (by rw [hMM, sortedD_rows])) fun pf σ6 H6 _ w6 => ?_
    have hFM : M.Perm (M.mergeSort leR) := (List.mergeSort_perm M leR).symm
    generalize M.mergeSort leR = F at w5 w5' w6 hFM
    have hFl : F.length ≤ 16 := by rw [← hFM.length_eq]; exact hMlen
    have w6' : Wd K E.C_Trade [] [] H H6 σ6 [.z a (iL cells), .h p c, .d (.int n), .d (pairsD ps), .t n ps, .d (row l), .l pd (F.map row), .l pf (F.map row), .u, .u, .u, .u, .u] := w6
    clear w5 w5' w6
    refine s_when w6' (b := false) (et_cast (et_or (et_test (ev_neSame (ev_var (i := 7) w6' rfl) (ev_var (i := 6) w6' rfl))) (fun _ => et_not (et_truB (ev_isiL (ev_var (i := 7) w6' rfl))))) (by simp)) (fun z => by cases z) (fun _ H7 w7 => ?_)
    refine q_parDrT (m := 1) (b := max 1 (F.length : Int)) w7 rfl (ev_max2 ev_int (ev_d (ev_lenL (ev_var (i := 7) w7 rfl)) (by rw [List.length_map]))) (by omega) (by omega) fun tn σ8 H8 t0 t1 w8 => ?_
    obtain ⟨tt, rfl⟩ : ∃ k : Nat, tn = (k : Int) := ⟨tn.toNat, by omega⟩
    have w8' : Wd K E.C_Trade [] [] H H8 σ8 [.z a (iL cells), .h p c, .d (.int n), .d (pairsD ps), .t n ps, .d (row l), .l pd (F.map row), .l pf (F.map row), .d (.int (tt : Nat)), .d (row []), .u, .u, .u] := w8
    have hX : M.Perm (F.drop tt ++ F.take tt) := hFM.trans (by
      have z : (F.take tt ++ F.drop tt).Perm (F.drop tt ++ F.take tt) := List.perm_append_comm
      rw [List.take_append_drop] at z
      exact z)
    have hA := hAny _ hX
    have hlen : (F.drop tt ++ F.take tt).flatten.length ≤ 20 := (alike_ok hA hrow).1
    refine q_forN (l := F.drop tt ++ F.take tt) (mk := row) w8' (en_cast (en_addN (en_slL (lo := some ((tt : Nat) : Int)) (ev_var (i := 7) w8' rfl) (eo_some (ev_var (i := 8) w8' rfl)) eo_none) (en_slL (hi := some ((tt : Nat) : Int)) (ev_var (i := 7) w8' rfl) eo_none (eo_some (ev_var (i := 8) w8' rfl))) ?_) (by rw [cut_from, cut_to, List.map_append, List.map_drop, List.map_take]))
      (fun t Γ' => ∃ c10, Γ' = [.z a (iL cells), .h p c, .d (.int n), .d (pairsD ps), .t n ps, .d (row l), .l pd (F.map row), .l pf (F.map row), .d (.int (tt : Nat)), .d (row (((F.drop tt ++ F.take tt).take t).flatten)), c10, .u, .u]) ⟨_, rfl⟩ ?_ ?_
    · rw [cut_from, cut_to, List.length_drop, List.length_take, List.length_map]
      omega
    · rintro S1 H1' un t ht v' σ' H' Γ' ⟨c10, rfl⟩ w9 t9
      refine g_one (i := 10) w9 t9 fun σa wa => ?_
      have htk : ((F.drop tt ++ F.take tt).take (t + 1)).flatten = ((F.drop tt ++ F.take tt).take t).flatten ++ (F.drop tt ++ F.take tt)[t] := by
        rw [List.take_succ_eq_append_getElem ht, List.flatten_append]
        simp
      have hle := flat_take (L := F.drop tt ++ F.take tt) (t + 1)
      rw [htk, List.length_append] at hle
      rw [htk]
      generalize (F.drop tt ++ F.take tt)[t] = one at wa hle ⊢
      generalize ((F.drop tt ++ F.take tt).take t).flatten = wh at wa hle ⊢
      have wa' : Wd K E.C_Trade S1 [] H1' H' σa [.z a (iL cells), .h p c, .d (.int n), .d (pairsD ps), .t n ps, .d (row l), .l pd (F.map row), .l pf (F.map row), .d (.int (tt : Nat)), .d (row wh), .d (row one), .u, .u] := wa
      refine s_asgD wa' (d := row (wh ++ one)) (ev_d (ev_addT (ev_var (i := 9) wa' rfl) (ev_var (i := 10) wa' rfl) (by rw [iL_len, iL_len]; omega)) (by rw [row, iL_app])) fun σb Hb wb => ⟨_, ⟨.d (row one), rfl⟩, wb⟩
    · rintro σ' H' Γ' ⟨c10, rfl⟩ w9
      rw [List.take_length] at w9
      refine s_ret w9 (c := .d (.bool true)) (ev_d (ev_call (ea_cons (ev_var (i := 4) w9 rfl) (ea_cons (ev_var (i := 5) w9 rfl) (ea_cons (ev_var (i := 9) w9 rfl) ea_nil))) ⟨n, ps, l, _, n0, n6, hrow, alike_ok hA hrow, rfl, rfl⟩) (by rw [alike_bar hok hA])) fun v Hi wi ai => ?_
      rw [Td.bl_of ai]
      exact q Hi
end
end K1
namespace K1
open PySem PySem.Spec PyProof.Rows L2 Pt
set_option maxHeartbeats 8000000 in
theorem all_mk {P : Program} {w : World} {K : PySem.W.Frag} {h : Heap} {mg : Str → Option Value} {fa : Addr} (X : K.In h) (G : h.Ns mainGlobals mg) (hfa : mg "law" = some (.ref fa))
    {fa_is_whole fa_is_letter fa_is_pair fa_check_pairs fa_Trade___init__ fa_Trade_letters pr_letters fa_Trade_pairs pr_pairs fa_Trade___eq__ fa_check_trade fa_may_change fa_bars_of fa_is_row fa_check_row fa_check_rows fa_alike fa_find_bar fa_only fa_first_unlike fa_least fa_first_letters fa_without fa_least_of fa_parts fa_hang fa_choose fa__law_mix fa__law_next fa__law_pairs fa__law_row fa__law_may fa__law_lots fa_law C_Trade : Addr}
    {od_is_whole an_is_whole od_is_letter an_is_letter od_is_pair an_is_pair od_check_pairs an_check_pairs od_Trade___init__ an_Trade___init__ od_Trade_letters an_Trade_letters od_Trade_pairs an_Trade_pairs od_Trade___eq__ an_Trade___eq__ od_check_trade an_check_trade od_may_change an_may_change od_bars_of an_bars_of od_is_row an_is_row od_check_row an_check_row od_check_rows an_check_rows od_alike an_alike od_find_bar an_find_bar od_only an_only od_first_unlike an_first_unlike od_least an_least od_first_letters an_first_letters od_without an_without od_least_of an_least_of od_parts an_parts od_hang an_hang od_choose an_choose od__law_mix an__law_mix od__law_next an__law_next od__law_pairs an__law_pairs od__law_row an__law_row od__law_may an__law_may od__law_lots an__law_lots od_law an_law : Option Addr}
    {sl_is_whole sl_is_letter sl_is_pair sl_check_pairs sl_Trade___init__ sl_Trade_letters sl_Trade_pairs sl_Trade___eq__ sl_check_trade sl_may_change sl_bars_of sl_is_row sl_check_row sl_check_rows sl_alike sl_find_bar sl_only sl_first_unlike sl_least sl_first_letters sl_without sl_least_of sl_parts sl_hang sl_choose sl__law_mix sl__law_next sl__law_pairs sl__law_row sl__law_may sl__law_lots sl_law : Array (Option Value)}
    {oc_is_whole kV_is_whole dc_is_whole pm_is_whole cd_is_whole ct_is_whole oc_is_letter kV_is_letter dc_is_letter pm_is_letter cd_is_letter ct_is_letter oc_is_pair kV_is_pair dc_is_pair pm_is_pair cd_is_pair ct_is_pair oc_check_pairs kV_check_pairs dc_check_pairs pm_check_pairs cd_check_pairs ct_check_pairs oc_Trade___init__ kV_Trade___init__ dc_Trade___init__ pm_Trade___init__ cd_Trade___init__ ct_Trade___init__ oc_Trade_letters kV_Trade_letters dc_Trade_letters pm_Trade_letters cd_Trade_letters ct_Trade_letters oc_Trade_pairs kV_Trade_pairs dc_Trade_pairs pm_Trade_pairs cd_Trade_pairs ct_Trade_pairs oc_Trade___eq__ kV_Trade___eq__ dc_Trade___eq__ pm_Trade___eq__ cd_Trade___eq__ ct_Trade___eq__ oc_check_trade kV_check_trade dc_check_trade pm_check_trade cd_check_trade ct_check_trade oc_may_change kV_may_change dc_may_change pm_may_change cd_may_change ct_may_change oc_bars_of kV_bars_of dc_bars_of pm_bars_of cd_bars_of ct_bars_of oc_is_row kV_is_row dc_is_row pm_is_row cd_is_row ct_is_row oc_check_row kV_check_row dc_check_row pm_check_row cd_check_row ct_check_row oc_check_rows kV_check_rows dc_check_rows pm_check_rows cd_check_rows ct_check_rows oc_alike kV_alike dc_alike pm_alike cd_alike ct_alike oc_find_bar kV_find_bar dc_find_bar pm_find_bar cd_find_bar ct_find_bar oc_only kV_only dc_only pm_only cd_only ct_only oc_first_unlike kV_first_unlike dc_first_unlike pm_first_unlike cd_first_unlike ct_first_unlike oc_least kV_least dc_least pm_least cd_least ct_least oc_first_letters kV_first_letters dc_first_letters pm_first_letters cd_first_letters ct_first_letters oc_without kV_without dc_without pm_without cd_without ct_without oc_least_of kV_least_of dc_least_of pm_least_of cd_least_of ct_least_of oc_parts kV_parts dc_parts pm_parts cd_parts ct_parts oc_hang kV_hang dc_hang pm_hang cd_hang ct_hang oc_choose kV_choose dc_choose pm_choose cd_choose ct_choose oc__law_mix kV__law_mix dc__law_mix pm__law_mix cd__law_mix ct__law_mix oc__law_next kV__law_next dc__law_next pm__law_next cd__law_next ct__law_next oc__law_pairs kV__law_pairs dc__law_pairs pm__law_pairs cd__law_pairs ct__law_pairs oc__law_row kV__law_row dc__law_row pm__law_row cd__law_row ct__law_row oc__law_may kV__law_may dc__law_may pm__law_may cd__law_may ct__law_may oc__law_lots kV__law_lots dc__law_lots pm__law_lots cd__law_lots ct__law_lots oc_law kV_law dc_law pm_law cd_law ct_law : Value}
    {rest_letters rest_pairs : List Value} {tk_MOST_LETTERS tk_MOST_IN_ROW : Tok}
    (aC : PySem.W.nsIn K mainGlobals "Trade" = some (some (.ref C_Trade)))
    (a_is_whole : PySem.W.nsIn K mainGlobals "is_whole" = some (some (.ref fa_is_whole)))
    (l_is_whole : K.lookup fa_is_whole = some ⟨oc_is_whole, od_is_whole, .func (PySem.W.fnOf "is_whole" "is_whole" (defArgs s_is_whole) (defBody s_is_whole) (defScope s_is_whole) .none kV_is_whole dc_is_whole pm_is_whole an_is_whole cd_is_whole ct_is_whole), sl_is_whole⟩)
    (c_is_whole : PySem.W.codeIn K cd_is_whole "is_whole" = true)
    (k_is_whole : PySem.W.keepIn K (.ref fa_is_whole) = true)
    (a_is_letter : PySem.W.nsIn K mainGlobals "is_letter" = some (some (.ref fa_is_letter)))
    (l_is_letter : K.lookup fa_is_letter = some ⟨oc_is_letter, od_is_letter, .func (PySem.W.fnOf "is_letter" "is_letter" (defArgs s_is_letter) (defBody s_is_letter) (defScope s_is_letter) .none kV_is_letter dc_is_letter pm_is_letter an_is_letter cd_is_letter ct_is_letter), sl_is_letter⟩)
    (c_is_letter : PySem.W.codeIn K cd_is_letter "is_letter" = true)
    (k_is_letter : PySem.W.keepIn K (.ref fa_is_letter) = true)
    (a_is_pair : PySem.W.nsIn K mainGlobals "is_pair" = some (some (.ref fa_is_pair)))
    (l_is_pair : K.lookup fa_is_pair = some ⟨oc_is_pair, od_is_pair, .func (PySem.W.fnOf "is_pair" "is_pair" (defArgs s_is_pair) (defBody s_is_pair) (defScope s_is_pair) .none kV_is_pair dc_is_pair pm_is_pair an_is_pair cd_is_pair ct_is_pair), sl_is_pair⟩)
    (c_is_pair : PySem.W.codeIn K cd_is_pair "is_pair" = true)
    (k_is_pair : PySem.W.keepIn K (.ref fa_is_pair) = true)
    (a_check_pairs : PySem.W.nsIn K mainGlobals "check_pairs" = some (some (.ref fa_check_pairs)))
    (l_check_pairs : K.lookup fa_check_pairs = some ⟨oc_check_pairs, od_check_pairs, .func (PySem.W.fnOf "check_pairs" "check_pairs" (defArgs s_check_pairs) (defBody s_check_pairs) (defScope s_check_pairs) .none kV_check_pairs dc_check_pairs pm_check_pairs an_check_pairs cd_check_pairs ct_check_pairs), sl_check_pairs⟩)
    (c_check_pairs : PySem.W.codeIn K cd_check_pairs "check_pairs" = true)
    (k_check_pairs : PySem.W.keepIn K (.ref fa_check_pairs) = true)
    (a_Trade___init__ : PySem.W.findIn K (.ref C_Trade) "__init__" = some (some (.ref fa_Trade___init__)))
    (i_Trade___init__ : PySem.W.isFn K (.ref fa_Trade___init__) = true)
    (l_Trade___init__ : K.lookup fa_Trade___init__ = some ⟨oc_Trade___init__, od_Trade___init__, .func (PySem.W.fnOf "__init__" "Trade.__init__" (defArgs s_Trade___init__) (defBody s_Trade___init__) (defScope s_Trade___init__) .none kV_Trade___init__ dc_Trade___init__ pm_Trade___init__ an_Trade___init__ cd_Trade___init__ ct_Trade___init__), sl_Trade___init__⟩)
    (c_Trade___init__ : PySem.W.codeIn K cd_Trade___init__ "Trade.__init__" = true)
    (k_Trade___init__ : PySem.W.keepIn K (.ref fa_Trade___init__) = true)
    (a_Trade_letters : PySem.W.findIn K (.ref C_Trade) "letters" = some (some (.ref pr_letters)))
    (g_Trade_letters : PySem.W.specialIn K (.ref pr_letters) "__get__" = some (some (.builtin "property.__get__")))
    (t_Trade_letters : PySem.W.takesIn K (.ref pr_letters) = some true)
    (r_Trade_letters : PySem.W.recIn K pr_letters "property" = some (.ref fa_Trade_letters :: rest_letters))
    (l_Trade_letters : K.lookup fa_Trade_letters = some ⟨oc_Trade_letters, od_Trade_letters, .func (PySem.W.fnOf "letters" "Trade.letters" (defArgs s_Trade_letters) (defBody s_Trade_letters) (defScope s_Trade_letters) .none kV_Trade_letters dc_Trade_letters pm_Trade_letters an_Trade_letters cd_Trade_letters ct_Trade_letters), sl_Trade_letters⟩)
    (c_Trade_letters : PySem.W.codeIn K cd_Trade_letters "Trade.letters" = true)
    (k_Trade_letters : PySem.W.keepIn K (.ref fa_Trade_letters) = true)
    (a_Trade_pairs : PySem.W.findIn K (.ref C_Trade) "pairs" = some (some (.ref pr_pairs)))
    (g_Trade_pairs : PySem.W.specialIn K (.ref pr_pairs) "__get__" = some (some (.builtin "property.__get__")))
    (t_Trade_pairs : PySem.W.takesIn K (.ref pr_pairs) = some true)
    (r_Trade_pairs : PySem.W.recIn K pr_pairs "property" = some (.ref fa_Trade_pairs :: rest_pairs))
    (l_Trade_pairs : K.lookup fa_Trade_pairs = some ⟨oc_Trade_pairs, od_Trade_pairs, .func (PySem.W.fnOf "pairs" "Trade.pairs" (defArgs s_Trade_pairs) (defBody s_Trade_pairs) (defScope s_Trade_pairs) .none kV_Trade_pairs dc_Trade_pairs pm_Trade_pairs an_Trade_pairs cd_Trade_pairs ct_Trade_pairs), sl_Trade_pairs⟩)
    (c_Trade_pairs : PySem.W.codeIn K cd_Trade_pairs "Trade.pairs" = true)
    (k_Trade_pairs : PySem.W.keepIn K (.ref fa_Trade_pairs) = true)
    (a_Trade___eq__ : PySem.W.findIn K (.ref C_Trade) "__eq__" = some (some (.ref fa_Trade___eq__)))
    (i_Trade___eq__ : PySem.W.isFn K (.ref fa_Trade___eq__) = true)
    (l_Trade___eq__ : K.lookup fa_Trade___eq__ = some ⟨oc_Trade___eq__, od_Trade___eq__, .func (PySem.W.fnOf "__eq__" "Trade.__eq__" (defArgs s_Trade___eq__) (defBody s_Trade___eq__) (defScope s_Trade___eq__) .none kV_Trade___eq__ dc_Trade___eq__ pm_Trade___eq__ an_Trade___eq__ cd_Trade___eq__ ct_Trade___eq__), sl_Trade___eq__⟩)
    (c_Trade___eq__ : PySem.W.codeIn K cd_Trade___eq__ "Trade.__eq__" = true)
    (k_Trade___eq__ : PySem.W.keepIn K (.ref fa_Trade___eq__) = true)
    (a_check_trade : PySem.W.nsIn K mainGlobals "check_trade" = some (some (.ref fa_check_trade)))
    (l_check_trade : K.lookup fa_check_trade = some ⟨oc_check_trade, od_check_trade, .func (PySem.W.fnOf "check_trade" "check_trade" (defArgs s_check_trade) (defBody s_check_trade) (defScope s_check_trade) .none kV_check_trade dc_check_trade pm_check_trade an_check_trade cd_check_trade ct_check_trade), sl_check_trade⟩)
    (c_check_trade : PySem.W.codeIn K cd_check_trade "check_trade" = true)
    (k_check_trade : PySem.W.keepIn K (.ref fa_check_trade) = true)
    (a_may_change : PySem.W.nsIn K mainGlobals "may_change" = some (some (.ref fa_may_change)))
    (l_may_change : K.lookup fa_may_change = some ⟨oc_may_change, od_may_change, .func (PySem.W.fnOf "may_change" "may_change" (defArgs s_may_change) (defBody s_may_change) (defScope s_may_change) .none kV_may_change dc_may_change pm_may_change an_may_change cd_may_change ct_may_change), sl_may_change⟩)
    (c_may_change : PySem.W.codeIn K cd_may_change "may_change" = true)
    (k_may_change : PySem.W.keepIn K (.ref fa_may_change) = true)
    (a_bars_of : PySem.W.nsIn K mainGlobals "bars_of" = some (some (.ref fa_bars_of)))
    (l_bars_of : K.lookup fa_bars_of = some ⟨oc_bars_of, od_bars_of, .func (PySem.W.fnOf "bars_of" "bars_of" (defArgs s_bars_of) (defBody s_bars_of) (defScope s_bars_of) .none kV_bars_of dc_bars_of pm_bars_of an_bars_of cd_bars_of ct_bars_of), sl_bars_of⟩)
    (c_bars_of : PySem.W.codeIn K cd_bars_of "bars_of" = true)
    (k_bars_of : PySem.W.keepIn K (.ref fa_bars_of) = true)
    (a_is_row : PySem.W.nsIn K mainGlobals "is_row" = some (some (.ref fa_is_row)))
    (l_is_row : K.lookup fa_is_row = some ⟨oc_is_row, od_is_row, .func (PySem.W.fnOf "is_row" "is_row" (defArgs s_is_row) (defBody s_is_row) (defScope s_is_row) .none kV_is_row dc_is_row pm_is_row an_is_row cd_is_row ct_is_row), sl_is_row⟩)
    (c_is_row : PySem.W.codeIn K cd_is_row "is_row" = true)
    (k_is_row : PySem.W.keepIn K (.ref fa_is_row) = true)
    (a_check_row : PySem.W.nsIn K mainGlobals "check_row" = some (some (.ref fa_check_row)))
    (l_check_row : K.lookup fa_check_row = some ⟨oc_check_row, od_check_row, .func (PySem.W.fnOf "check_row" "check_row" (defArgs s_check_row) (defBody s_check_row) (defScope s_check_row) .none kV_check_row dc_check_row pm_check_row an_check_row cd_check_row ct_check_row), sl_check_row⟩)
    (c_check_row : PySem.W.codeIn K cd_check_row "check_row" = true)
    (k_check_row : PySem.W.keepIn K (.ref fa_check_row) = true)
    (a_check_rows : PySem.W.nsIn K mainGlobals "check_rows" = some (some (.ref fa_check_rows)))
    (l_check_rows : K.lookup fa_check_rows = some ⟨oc_check_rows, od_check_rows, .func (PySem.W.fnOf "check_rows" "check_rows" (defArgs s_check_rows) (defBody s_check_rows) (defScope s_check_rows) .none kV_check_rows dc_check_rows pm_check_rows an_check_rows cd_check_rows ct_check_rows), sl_check_rows⟩)
    (c_check_rows : PySem.W.codeIn K cd_check_rows "check_rows" = true)
    (k_check_rows : PySem.W.keepIn K (.ref fa_check_rows) = true)
    (a_alike : PySem.W.nsIn K mainGlobals "alike" = some (some (.ref fa_alike)))
    (l_alike : K.lookup fa_alike = some ⟨oc_alike, od_alike, .func (PySem.W.fnOf "alike" "alike" (defArgs s_alike) (defBody s_alike) (defScope s_alike) .none kV_alike dc_alike pm_alike an_alike cd_alike ct_alike), sl_alike⟩)
    (c_alike : PySem.W.codeIn K cd_alike "alike" = true)
    (k_alike : PySem.W.keepIn K (.ref fa_alike) = true)
    (a_find_bar : PySem.W.nsIn K mainGlobals "find_bar" = some (some (.ref fa_find_bar)))
    (l_find_bar : K.lookup fa_find_bar = some ⟨oc_find_bar, od_find_bar, .func (PySem.W.fnOf "find_bar" "find_bar" (defArgs s_find_bar) (defBody s_find_bar) (defScope s_find_bar) .none kV_find_bar dc_find_bar pm_find_bar an_find_bar cd_find_bar ct_find_bar), sl_find_bar⟩)
    (c_find_bar : PySem.W.codeIn K cd_find_bar "find_bar" = true)
    (k_find_bar : PySem.W.keepIn K (.ref fa_find_bar) = true)
    (a_only : PySem.W.nsIn K mainGlobals "only" = some (some (.ref fa_only)))
    (l_only : K.lookup fa_only = some ⟨oc_only, od_only, .func (PySem.W.fnOf "only" "only" (defArgs s_only) (defBody s_only) (defScope s_only) .none kV_only dc_only pm_only an_only cd_only ct_only), sl_only⟩)
    (c_only : PySem.W.codeIn K cd_only "only" = true)
    (k_only : PySem.W.keepIn K (.ref fa_only) = true)
    (a_first_unlike : PySem.W.nsIn K mainGlobals "first_unlike" = some (some (.ref fa_first_unlike)))
    (l_first_unlike : K.lookup fa_first_unlike = some ⟨oc_first_unlike, od_first_unlike, .func (PySem.W.fnOf "first_unlike" "first_unlike" (defArgs s_first_unlike) (defBody s_first_unlike) (defScope s_first_unlike) .none kV_first_unlike dc_first_unlike pm_first_unlike an_first_unlike cd_first_unlike ct_first_unlike), sl_first_unlike⟩)
    (c_first_unlike : PySem.W.codeIn K cd_first_unlike "first_unlike" = true)
    (k_first_unlike : PySem.W.keepIn K (.ref fa_first_unlike) = true)
    (a_least : PySem.W.nsIn K mainGlobals "least" = some (some (.ref fa_least)))
    (l_least : K.lookup fa_least = some ⟨oc_least, od_least, .func (PySem.W.fnOf "least" "least" (defArgs s_least) (defBody s_least) (defScope s_least) .none kV_least dc_least pm_least an_least cd_least ct_least), sl_least⟩)
    (c_least : PySem.W.codeIn K cd_least "least" = true)
    (k_least : PySem.W.keepIn K (.ref fa_least) = true)
    (a_first_letters : PySem.W.nsIn K mainGlobals "first_letters" = some (some (.ref fa_first_letters)))
    (l_first_letters : K.lookup fa_first_letters = some ⟨oc_first_letters, od_first_letters, .func (PySem.W.fnOf "first_letters" "first_letters" (defArgs s_first_letters) (defBody s_first_letters) (defScope s_first_letters) .none kV_first_letters dc_first_letters pm_first_letters an_first_letters cd_first_letters ct_first_letters), sl_first_letters⟩)
    (c_first_letters : PySem.W.codeIn K cd_first_letters "first_letters" = true)
    (k_first_letters : PySem.W.keepIn K (.ref fa_first_letters) = true)
    (a_without : PySem.W.nsIn K mainGlobals "without" = some (some (.ref fa_without)))
    (l_without : K.lookup fa_without = some ⟨oc_without, od_without, .func (PySem.W.fnOf "without" "without" (defArgs s_without) (defBody s_without) (defScope s_without) .none kV_without dc_without pm_without an_without cd_without ct_without), sl_without⟩)
    (c_without : PySem.W.codeIn K cd_without "without" = true)
    (k_without : PySem.W.keepIn K (.ref fa_without) = true)
    (a_least_of : PySem.W.nsIn K mainGlobals "least_of" = some (some (.ref fa_least_of)))
    (l_least_of : K.lookup fa_least_of = some ⟨oc_least_of, od_least_of, .func (PySem.W.fnOf "least_of" "least_of" (defArgs s_least_of) (defBody s_least_of) (defScope s_least_of) .none kV_least_of dc_least_of pm_least_of an_least_of cd_least_of ct_least_of), sl_least_of⟩)
    (c_least_of : PySem.W.codeIn K cd_least_of "least_of" = true)
    (k_least_of : PySem.W.keepIn K (.ref fa_least_of) = true)
    (a_parts : PySem.W.nsIn K mainGlobals "parts" = some (some (.ref fa_parts)))
    (l_parts : K.lookup fa_parts = some ⟨oc_parts, od_parts, .func (PySem.W.fnOf "parts" "parts" (defArgs s_parts) (defBody s_parts) (defScope s_parts) .none kV_parts dc_parts pm_parts an_parts cd_parts ct_parts), sl_parts⟩)
    (c_parts : PySem.W.codeIn K cd_parts "parts" = true)
    (k_parts : PySem.W.keepIn K (.ref fa_parts) = true)
    (a_hang : PySem.W.nsIn K mainGlobals "hang" = some (some (.ref fa_hang)))
    (l_hang : K.lookup fa_hang = some ⟨oc_hang, od_hang, .func (PySem.W.fnOf "hang" "hang" (defArgs s_hang) (defBody s_hang) (defScope s_hang) .none kV_hang dc_hang pm_hang an_hang cd_hang ct_hang), sl_hang⟩)
    (c_hang : PySem.W.codeIn K cd_hang "hang" = true)
    (k_hang : PySem.W.keepIn K (.ref fa_hang) = true)
    (a_choose : PySem.W.nsIn K mainGlobals "choose" = some (some (.ref fa_choose)))
    (l_choose : K.lookup fa_choose = some ⟨oc_choose, od_choose, .func (PySem.W.fnOf "choose" "choose" (defArgs s_choose) (defBody s_choose) (defScope s_choose) .none kV_choose dc_choose pm_choose an_choose cd_choose ct_choose), sl_choose⟩)
    (c_choose : PySem.W.codeIn K cd_choose "choose" = true)
    (k_choose : PySem.W.keepIn K (.ref fa_choose) = true)
    (a__law_mix : PySem.W.nsIn K mainGlobals "_law_mix" = some (some (.ref fa__law_mix)))
    (l__law_mix : K.lookup fa__law_mix = some ⟨oc__law_mix, od__law_mix, .func (PySem.W.fnOf "_law_mix" "_law_mix" (defArgs s__law_mix) (defBody s__law_mix) (defScope s__law_mix) .none kV__law_mix dc__law_mix pm__law_mix an__law_mix cd__law_mix ct__law_mix), sl__law_mix⟩)
    (c__law_mix : PySem.W.codeIn K cd__law_mix "_law_mix" = true)
    (k__law_mix : PySem.W.keepIn K (.ref fa__law_mix) = true)
    (a__law_next : PySem.W.nsIn K mainGlobals "_law_next" = some (some (.ref fa__law_next)))
    (l__law_next : K.lookup fa__law_next = some ⟨oc__law_next, od__law_next, .func (PySem.W.fnOf "_law_next" "_law_next" (defArgs s__law_next) (defBody s__law_next) (defScope s__law_next) .none kV__law_next dc__law_next pm__law_next an__law_next cd__law_next ct__law_next), sl__law_next⟩)
    (c__law_next : PySem.W.codeIn K cd__law_next "_law_next" = true)
    (k__law_next : PySem.W.keepIn K (.ref fa__law_next) = true)
    (a__law_pairs : PySem.W.nsIn K mainGlobals "_law_pairs" = some (some (.ref fa__law_pairs)))
    (l__law_pairs : K.lookup fa__law_pairs = some ⟨oc__law_pairs, od__law_pairs, .func (PySem.W.fnOf "_law_pairs" "_law_pairs" (defArgs s__law_pairs) (defBody s__law_pairs) (defScope s__law_pairs) .none kV__law_pairs dc__law_pairs pm__law_pairs an__law_pairs cd__law_pairs ct__law_pairs), sl__law_pairs⟩)
    (c__law_pairs : PySem.W.codeIn K cd__law_pairs "_law_pairs" = true)
    (k__law_pairs : PySem.W.keepIn K (.ref fa__law_pairs) = true)
    (a__law_row : PySem.W.nsIn K mainGlobals "_law_row" = some (some (.ref fa__law_row)))
    (l__law_row : K.lookup fa__law_row = some ⟨oc__law_row, od__law_row, .func (PySem.W.fnOf "_law_row" "_law_row" (defArgs s__law_row) (defBody s__law_row) (defScope s__law_row) .none kV__law_row dc__law_row pm__law_row an__law_row cd__law_row ct__law_row), sl__law_row⟩)
    (c__law_row : PySem.W.codeIn K cd__law_row "_law_row" = true)
    (k__law_row : PySem.W.keepIn K (.ref fa__law_row) = true)
    (a__law_may : PySem.W.nsIn K mainGlobals "_law_may" = some (some (.ref fa__law_may)))
    (l__law_may : K.lookup fa__law_may = some ⟨oc__law_may, od__law_may, .func (PySem.W.fnOf "_law_may" "_law_may" (defArgs s__law_may) (defBody s__law_may) (defScope s__law_may) .none kV__law_may dc__law_may pm__law_may an__law_may cd__law_may ct__law_may), sl__law_may⟩)
    (c__law_may : PySem.W.codeIn K cd__law_may "_law_may" = true)
    (k__law_may : PySem.W.keepIn K (.ref fa__law_may) = true)
    (a__law_lots : PySem.W.nsIn K mainGlobals "_law_lots" = some (some (.ref fa__law_lots)))
    (l__law_lots : K.lookup fa__law_lots = some ⟨oc__law_lots, od__law_lots, .func (PySem.W.fnOf "_law_lots" "_law_lots" (defArgs s__law_lots) (defBody s__law_lots) (defScope s__law_lots) .none kV__law_lots dc__law_lots pm__law_lots an__law_lots cd__law_lots ct__law_lots), sl__law_lots⟩)
    (c__law_lots : PySem.W.codeIn K cd__law_lots "_law_lots" = true)
    (k__law_lots : PySem.W.keepIn K (.ref fa__law_lots) = true)
    (a_law : PySem.W.nsIn K mainGlobals "law" = some (some (.ref fa_law)))
    (l_law : K.lookup fa_law = some ⟨oc_law, od_law, .func (PySem.W.fnOf "law" "law" (defArgs s_law) (defBody s_law) (defScope s_law) .none kV_law dc_law pm_law an_law cd_law ct_law), sl_law⟩)
    (c_law : PySem.W.codeIn K cd_law "law" = true)
    (k_law : PySem.W.keepIn K (.ref fa_law) = true)
    (z_all : PySem.W.nsIn K mainGlobals "all" = some none)
    (z_bool : PySem.W.nsIn K mainGlobals "bool" = some none)
    (z_enumerate : PySem.W.nsIn K mainGlobals "enumerate" = some none)
    (z_int : PySem.W.nsIn K mainGlobals "int" = some none)
    (z_isinstance : PySem.W.nsIn K mainGlobals "isinstance" = some none)
    (z_len : PySem.W.nsIn K mainGlobals "len" = some none)
    (z_list : PySem.W.nsIn K mainGlobals "list" = some none)
    (z_max : PySem.W.nsIn K mainGlobals "max" = some none)
    (z_min : PySem.W.nsIn K mainGlobals "min" = some none)
    (z_range : PySem.W.nsIn K mainGlobals "range" = some none)
    (z_set : PySem.W.nsIn K mainGlobals "set" = some none)
    (z_sorted : PySem.W.nsIn K mainGlobals "sorted" = some none)
    (z_tuple : PySem.W.nsIn K mainGlobals "tuple" = some none)
    (v_MOST_LETTERS : PySem.W.nsIn K mainGlobals "MOST_LETTERS" = some (some (.int 6 tk_MOST_LETTERS)))
    (v_MOST_IN_ROW : PySem.W.nsIn K mainGlobals "MOST_IN_ROW" = some (some (.int 20 tk_MOST_IN_ROW)))
    (pg : PySem.W.plainGet K C_Trade Str.empty = true)
    (hd : PySem.W.hasDictIn K C_Trade = true)
    (po : PySem.W.plainOver K C_Trade = true)
    (sa : PySem.W.findIn K (.ref C_Trade) "__setattr__" = some (some (.builtin "object.__setattr__")))
    (mk : PySem.W.makesIn K C_Trade = true)
    (kc : PySem.W.keepIn K (.ref C_Trade) = true)
    (nl : PySem.W.findIn K (.ref C_Trade) "_letters" = some none)
    (np : PySem.W.findIn K (.ref C_Trade) "_pairs" = some none)
    (ha : PySem.W.findIn K (.ref C_Trade) "__class__" = some (some (.builtin "object.__class__")))
    (hn : PySem.W.specialIn K (.builtin "object.__class__") "__get__" = some (some (.builtin "getset_descriptor.__get__")))
    (htk : PySem.W.takesIn K (.builtin "object.__class__") = some true)
    (hm : PySem.W.mroIn K C_Trade (.type "object") = some true)
    (me : PySem.W.kitOne K (.ref C_Trade) (.ref C_Trade) = some true)
    (nt : PySem.W.kitOne K (.type "tuple") (.ref C_Trade) = some false)
    (nf : PySem.W.notFirst K C_Trade (.type "tuple") = true)
    : ∃ fd : FuncData, (∀ (s : Shared) (v : Value), BindsTo s fd ⟨[v], []⟩ [("_law_script", v)]) ∧ ∀ base : Heap, K.In base → base.Ns mainGlobals mg → FnOk P w K mg base CX0 40 fa fd ["_law_script"] (spLaw K) := by
  have e := hfa.symm.trans (PySem.W.mg_of X G a_law)
  obtain rfl : fa_law = fa := by
    cases e
    rfl
  have F_is_whole := fun_mk (st := s_is_whole) l_is_whole c_is_whole k_is_whole
  have b_is_whole := F_is_whole.binds (ps := ["value", "low", "high"]) fun _ _ _ _ _ _ us hl => match us, hl with | [_, _, _], _ => rfl
  have F_is_letter := fun_mk (st := s_is_letter) l_is_letter c_is_letter k_is_letter
  have b_is_letter := F_is_letter.binds (ps := ["letters", "value"]) fun _ _ _ _ _ _ us hl => match us, hl with | [_, _], _ => rfl
  have F_is_pair := fun_mk (st := s_is_pair) l_is_pair c_is_pair k_is_pair
  have b_is_pair := F_is_pair.binds (ps := ["letters", "value"]) fun _ _ _ _ _ _ us hl => match us, hl with | [_, _], _ => rfl
  have F_check_pairs := fun_mk (st := s_check_pairs) l_check_pairs c_check_pairs k_check_pairs
  have b_check_pairs := F_check_pairs.binds (ps := ["letters", "pairs"]) fun _ _ _ _ _ _ us hl => match us, hl with | [_, _], _ => rfl
  have F_Trade___init__ := fun_mk (st := s_Trade___init__) l_Trade___init__ c_Trade___init__ k_Trade___init__
  have b_Trade___init__ := F_Trade___init__.binds (ps := ["self", "letters", "pairs"]) fun _ _ _ _ _ _ us hl => match us, hl with | [_, _, _], _ => rfl
  have F_Trade_letters := fun_mk (st := s_Trade_letters) l_Trade_letters c_Trade_letters k_Trade_letters
  have b_Trade_letters := F_Trade_letters.binds (ps := ["self"]) fun _ _ _ _ _ _ us hl => match us, hl with | [_], _ => rfl
  have F_Trade_pairs := fun_mk (st := s_Trade_pairs) l_Trade_pairs c_Trade_pairs k_Trade_pairs
  have b_Trade_pairs := F_Trade_pairs.binds (ps := ["self"]) fun _ _ _ _ _ _ us hl => match us, hl with | [_], _ => rfl
  have F_Trade___eq__ := fun_mk (st := s_Trade___eq__) l_Trade___eq__ c_Trade___eq__ k_Trade___eq__
  have b_Trade___eq__ := F_Trade___eq__.binds (ps := ["self", "other"]) fun _ _ _ _ _ _ us hl => match us, hl with | [_, _], _ => rfl
  have F_check_trade := fun_mk (st := s_check_trade) l_check_trade c_check_trade k_check_trade
  have b_check_trade := F_check_trade.binds (ps := ["trade"]) fun _ _ _ _ _ _ us hl => match us, hl with | [_], _ => rfl
  have F_may_change := fun_mk (st := s_may_change) l_may_change c_may_change k_may_change
  have b_may_change := F_may_change.binds (ps := ["trade", "one", "other"]) fun _ _ _ _ _ _ us hl => match us, hl with | [_, _, _], _ => rfl
  have F_bars_of := fun_mk (st := s_bars_of) l_bars_of c_bars_of k_bars_of
  have b_bars_of := F_bars_of.binds (ps := ["trade"]) fun _ _ _ _ _ _ us hl => match us, hl with | [_], _ => rfl
  have F_is_row := fun_mk (st := s_is_row) l_is_row c_is_row k_is_row
  have b_is_row := F_is_row.binds (ps := ["letters", "value"]) fun _ _ _ _ _ _ us hl => match us, hl with | [_, _], _ => rfl
  have F_check_row := fun_mk (st := s_check_row) l_check_row c_check_row k_check_row
  have b_check_row := F_check_row.binds (ps := ["trade", "row"]) fun _ _ _ _ _ _ us hl => match us, hl with | [_, _], _ => rfl
  have F_check_rows := fun_mk (st := s_check_rows) l_check_rows c_check_rows k_check_rows
  have b_check_rows := F_check_rows.binds (ps := ["trade", "one", "other"]) fun _ _ _ _ _ _ us hl => match us, hl with | [_, _, _], _ => rfl
  have F_alike := fun_mk (st := s_alike) l_alike c_alike k_alike
  have b_alike := F_alike.binds (ps := ["trade", "one", "other"]) fun _ _ _ _ _ _ us hl => match us, hl with | [_, _, _], _ => rfl
  have F_find_bar := fun_mk (st := s_find_bar) l_find_bar c_find_bar k_find_bar
  have b_find_bar := F_find_bar.binds (ps := ["trade", "one", "other"]) fun _ _ _ _ _ _ us hl => match us, hl with | [_, _, _], _ => rfl
  have F_only := fun_mk (st := s_only) l_only c_only k_only
  have b_only := F_only.binds (ps := ["row", "low", "high"]) fun _ _ _ _ _ _ us hl => match us, hl with | [_, _, _], _ => rfl
  have F_first_unlike := fun_mk (st := s_first_unlike) l_first_unlike c_first_unlike k_first_unlike
  have b_first_unlike := F_first_unlike.binds (ps := ["one", "other"]) fun _ _ _ _ _ _ us hl => match us, hl with | [_, _], _ => rfl
  have F_least := fun_mk (st := s_least) l_least c_least k_least
  have b_least := F_least.binds (ps := ["trade", "row"]) fun _ _ _ _ _ _ us hl => match us, hl with | [_, _], _ => rfl
  have F_first_letters := fun_mk (st := s_first_letters) l_first_letters c_first_letters k_first_letters
  have b_first_letters := F_first_letters.binds (ps := ["bars", "row"]) fun _ _ _ _ _ _ us hl => match us, hl with | [_, _], _ => rfl
  have F_without := fun_mk (st := s_without) l_without c_without k_without
  have b_without := F_without.binds (ps := ["row", "place"]) fun _ _ _ _ _ _ us hl => match us, hl with | [_, _], _ => rfl
  have F_least_of := fun_mk (st := s_least_of) l_least_of c_least_of k_least_of
  have b_least_of := F_least_of.binds (ps := ["bars", "row"]) fun _ _ _ _ _ _ us hl => match us, hl with | [_, _], _ => rfl
  have F_parts := fun_mk (st := s_parts) l_parts c_parts k_parts
  have b_parts := F_parts.binds (ps := ["trade", "row"]) fun _ _ _ _ _ _ us hl => match us, hl with | [_, _], _ => rfl
  have F_hang := fun_mk (st := s_hang) l_hang c_hang k_hang
  have b_hang := F_hang.binds (ps := ["bars", "row"]) fun _ _ _ _ _ _ us hl => match us, hl with | [_, _], _ => rfl
  have F_choose := fun_mk (st := s_choose) l_choose c_choose k_choose
  have b_choose := F_choose.binds (ps := ["row", "bits"]) fun _ _ _ _ _ _ us hl => match us, hl with | [_, _], _ => rfl
  have F__law_mix := fun_mk (st := s__law_mix) l__law_mix c__law_mix k__law_mix
  have b__law_mix := F__law_mix.binds (ps := ["_law_script", "_law_seed"]) fun _ _ _ _ _ _ us hl => match us, hl with | [_, _], _ => rfl
  have F__law_next := fun_mk (st := s__law_next) l__law_next c__law_next k__law_next
  have b__law_next := F__law_next.binds (ps := ["_law_h", "_law_bound"]) fun _ _ _ _ _ _ us hl => match us, hl with | [_, _], _ => rfl
  have F__law_pairs := fun_mk (st := s__law_pairs) l__law_pairs c__law_pairs k__law_pairs
  have b__law_pairs := F__law_pairs.binds (ps := ["_law_h", "_law_letters"]) fun _ _ _ _ _ _ us hl => match us, hl with | [_, _], _ => rfl
  have F__law_row := fun_mk (st := s__law_row) l__law_row c__law_row k__law_row
  have b__law_row := F__law_row.binds (ps := ["_law_h", "_law_letters", "_law_most"]) fun _ _ _ _ _ _ us hl => match us, hl with | [_, _, _], _ => rfl
  have F__law_may := fun_mk (st := s__law_may) l__law_may c__law_may k__law_may
  have b__law_may := F__law_may.binds (ps := ["_law_pairs_here", "_law_a", "_law_b"]) fun _ _ _ _ _ _ us hl => match us, hl with | [_, _, _], _ => rfl
  have F__law_lots := fun_mk (st := s__law_lots) l__law_lots c__law_lots k__law_lots
  have b__law_lots := F__law_lots.binds (ps := ["_law_pairs_here", "_law_row_here"]) fun _ _ _ _ _ _ us hl => match us, hl with | [_, _], _ => rfl
  have F_law := fun_mk (st := s_law) l_law c_law k_law
  have b_law := F_law.binds (ps := ["_law_script"]) fun _ _ _ _ _ _ us hl => match us, hl with | [_], _ => rfl
  let E : Nv K mg := {
    a_is_whole := fa_is_whole
    d_is_whole := _
    F_is_whole := F_is_whole
    b_is_whole := b_is_whole
    m_is_whole := PySem.W.mg_of X G a_is_whole
    a_is_letter := fa_is_letter
    d_is_letter := _
    F_is_letter := F_is_letter
    b_is_letter := b_is_letter
    m_is_letter := PySem.W.mg_of X G a_is_letter
    a_is_pair := fa_is_pair
    d_is_pair := _
    F_is_pair := F_is_pair
    b_is_pair := b_is_pair
    m_is_pair := PySem.W.mg_of X G a_is_pair
    a_check_pairs := fa_check_pairs
    d_check_pairs := _
    F_check_pairs := F_check_pairs
    b_check_pairs := b_check_pairs
    m_check_pairs := PySem.W.mg_of X G a_check_pairs
    a_Trade___init__ := fa_Trade___init__
    d_Trade___init__ := _
    F_Trade___init__ := F_Trade___init__
    b_Trade___init__ := b_Trade___init__
    a_Trade_letters := fa_Trade_letters
    d_Trade_letters := _
    F_Trade_letters := F_Trade_letters
    b_Trade_letters := b_Trade_letters
    a_Trade_pairs := fa_Trade_pairs
    d_Trade_pairs := _
    F_Trade_pairs := F_Trade_pairs
    b_Trade_pairs := b_Trade_pairs
    a_Trade___eq__ := fa_Trade___eq__
    d_Trade___eq__ := _
    F_Trade___eq__ := F_Trade___eq__
    b_Trade___eq__ := b_Trade___eq__
    a_check_trade := fa_check_trade
    d_check_trade := _
    F_check_trade := F_check_trade
    b_check_trade := b_check_trade
    m_check_trade := PySem.W.mg_of X G a_check_trade
    a_may_change := fa_may_change
    d_may_change := _
    F_may_change := F_may_change
    b_may_change := b_may_change
    m_may_change := PySem.W.mg_of X G a_may_change
    a_bars_of := fa_bars_of
    d_bars_of := _
    F_bars_of := F_bars_of
    b_bars_of := b_bars_of
    m_bars_of := PySem.W.mg_of X G a_bars_of
    a_is_row := fa_is_row
    d_is_row := _
    F_is_row := F_is_row
    b_is_row := b_is_row
    m_is_row := PySem.W.mg_of X G a_is_row
    a_check_row := fa_check_row
    d_check_row := _
    F_check_row := F_check_row
    b_check_row := b_check_row
    m_check_row := PySem.W.mg_of X G a_check_row
    a_check_rows := fa_check_rows
    d_check_rows := _
    F_check_rows := F_check_rows
    b_check_rows := b_check_rows
    m_check_rows := PySem.W.mg_of X G a_check_rows
    a_alike := fa_alike
    d_alike := _
    F_alike := F_alike
    b_alike := b_alike
    m_alike := PySem.W.mg_of X G a_alike
    a_find_bar := fa_find_bar
    d_find_bar := _
    F_find_bar := F_find_bar
    b_find_bar := b_find_bar
    m_find_bar := PySem.W.mg_of X G a_find_bar
    a_only := fa_only
    d_only := _
    F_only := F_only
    b_only := b_only
    m_only := PySem.W.mg_of X G a_only
    a_first_unlike := fa_first_unlike
    d_first_unlike := _
    F_first_unlike := F_first_unlike
    b_first_unlike := b_first_unlike
    m_first_unlike := PySem.W.mg_of X G a_first_unlike
    a_least := fa_least
    d_least := _
    F_least := F_least
    b_least := b_least
    m_least := PySem.W.mg_of X G a_least
    a_first_letters := fa_first_letters
    d_first_letters := _
    F_first_letters := F_first_letters
    b_first_letters := b_first_letters
    m_first_letters := PySem.W.mg_of X G a_first_letters
    a_without := fa_without
    d_without := _
    F_without := F_without
    b_without := b_without
    m_without := PySem.W.mg_of X G a_without
    a_least_of := fa_least_of
    d_least_of := _
    F_least_of := F_least_of
    b_least_of := b_least_of
    m_least_of := PySem.W.mg_of X G a_least_of
    a_parts := fa_parts
    d_parts := _
    F_parts := F_parts
    b_parts := b_parts
    m_parts := PySem.W.mg_of X G a_parts
    a_hang := fa_hang
    d_hang := _
    F_hang := F_hang
    b_hang := b_hang
    m_hang := PySem.W.mg_of X G a_hang
    a_choose := fa_choose
    d_choose := _
    F_choose := F_choose
    b_choose := b_choose
    m_choose := PySem.W.mg_of X G a_choose
    a__law_mix := fa__law_mix
    d__law_mix := _
    F__law_mix := F__law_mix
    b__law_mix := b__law_mix
    m__law_mix := PySem.W.mg_of X G a__law_mix
    a__law_next := fa__law_next
    d__law_next := _
    F__law_next := F__law_next
    b__law_next := b__law_next
    m__law_next := PySem.W.mg_of X G a__law_next
    a__law_pairs := fa__law_pairs
    d__law_pairs := _
    F__law_pairs := F__law_pairs
    b__law_pairs := b__law_pairs
    m__law_pairs := PySem.W.mg_of X G a__law_pairs
    a__law_row := fa__law_row
    d__law_row := _
    F__law_row := F__law_row
    b__law_row := b__law_row
    m__law_row := PySem.W.mg_of X G a__law_row
    a__law_may := fa__law_may
    d__law_may := _
    F__law_may := F__law_may
    b__law_may := b__law_may
    m__law_may := PySem.W.mg_of X G a__law_may
    a__law_lots := fa__law_lots
    d__law_lots := _
    F__law_lots := F__law_lots
    b__law_lots := b__law_lots
    m__law_lots := PySem.W.mg_of X G a__law_lots
    a_law := fa_law
    d_law := _
    F_law := F_law
    b_law := b_law
    m_law := PySem.W.mg_of X G a_law
    C_Trade := C_Trade
    m_Trade := PySem.W.mg_of X G aC
    n_all := PySem.W.mg_none_of X G z_all
    n_bool := PySem.W.mg_none_of X G z_bool
    n_enumerate := PySem.W.mg_none_of X G z_enumerate
    n_int := PySem.W.mg_none_of X G z_int
    n_isinstance := PySem.W.mg_none_of X G z_isinstance
    n_len := PySem.W.mg_none_of X G z_len
    n_list := PySem.W.mg_none_of X G z_list
    n_max := PySem.W.mg_none_of X G z_max
    n_min := PySem.W.mg_none_of X G z_min
    n_range := PySem.W.mg_none_of X G z_range
    n_set := PySem.W.mg_none_of X G z_set
    n_sorted := PySem.W.mg_none_of X G z_sorted
    n_tuple := PySem.W.mg_none_of X G z_tuple
    t_MOST_LETTERS := tk_MOST_LETTERS
    c_MOST_LETTERS := PySem.W.mg_of X G v_MOST_LETTERS
    t_MOST_IN_ROW := tk_MOST_IN_ROW
    c_MOST_IN_ROW := PySem.W.mg_of X G v_MOST_IN_ROW
    cl := ⟨pg, hd, po, sa⟩
    nl := nl
    np := np
    mk_Trade := ⟨mk, a_Trade___init__, i_Trade___init__, kc⟩
    pr_l := pr_letters
    pr_p := pr_pairs
    p_letters := ⟨a_Trade_letters, g_Trade_letters, t_Trade_letters, ⟨_, r_Trade_letters⟩⟩
    p_pairs := ⟨a_Trade_pairs, g_Trade_pairs, t_Trade_pairs, ⟨_, r_Trade_pairs⟩⟩
    ic := ⟨⟨⟨pg, hd, po, sa⟩, ha, hn, htk, hm, me⟩, nt⟩
    eqf := a_Trade___eq__
    eqi := i_Trade___eq__
    nf := nf }
  exact ⟨PySem.W.fnOf "law" "law" (defArgs s_law) (defBody s_law) (defScope s_law) .none kV_law dc_law pm_law an_law cd_law ct_law, fun s v => .of_eq rfl, fun base _ _ => ok_law E⟩
theorem fz_of {K : PySem.W.Frag} {H : Hp} {a : Addr} {xs : List V} (hO : Only H) (hS : SqL K H a xs) : Fz K H a xs := by
  rcases hS with hS | hS
  · rcases hS with hS | ⟨o, hS⟩
    · rcases hO a with z | ⟨o, ys, z⟩ <;> rw [hS] at z <;> cases z
    · exact .inl ⟨o, hS⟩
  · exact .inr hS
theorem walk {l : PySem.W.OpenLaw} {q : Program} {loose : List Str} {XP : (Str → Option Value) → Heap → Prop} {YP : World → Heap → Prop} {d : DefRec} {K : Params → PySem.W.Frag} (hn : l.most = some 63) (hdf : d.params.defaults = [])
    (hY : ∀ (w : World) (h : Heap), YP w h → (K w.params).In h)
    (F : ∀ (w : World) (mg : Str → Option Value) (fa : Addr) (h : Heap), (K w.params).In h → h.Ns mainGlobals mg → mg d.name = some (.ref fa) →
      ∃ fd : FuncData, (∀ (s : Shared) (u : Value), BindsTo s fd ⟨[u], []⟩ [("_law_script", u)]) ∧ ∀ base : Heap, (K w.params).In base → base.Ns mainGlobals mg → FnOk l.prog w (K w.params) mg base CX0 40 fa fd ["_law_script"] (spLaw (K w.params))) :
    PySem.W.WalkO q loose XP YP l.row.toRowW d [] (fun f vs => PySem.call f vs) :=
  L2.walk_of (n := 63) (k := 40) (x := "_law_script") (CX := fun _ => CX0) (sp := fun w => spLaw (K w.params)) hn (by decide) hdf ⟨rfl, by decide, by decide⟩ hY F
    (fun w H a ns hl hO hS => ⟨a, ns, rfl, fz_of hO hS, hl, fun _ => rfl⟩) fun _ _ _ _ _ z => z
end K1
open PySem PySem.W PyProof.Rows
set_option maxRecDepth 100000 in
set_option maxHeartbeats 0 in
theorem PySem.Challenge.cw_placetrade_k16_whole_parts_of_rows_holds : PySem.Challenge.rw_placetrade_k16_whole_parts_of_rows.Holds := by
  w_on; o_law; k_head; (case hw => w_witness2)
  k_fill
  refine K1.walk (l := PySem.Challenge.rw_placetrade_k16_whole_parts_of_rows) rfl rfl (fun w h Y => PySem.W.kIn_of Y) ?F
  case F =>
    intro w mg fa h KX G hmg
    refine' K1.all_mk KX G hmg ?aC ?a_is_whole ?l_is_whole ?c_is_whole ?k_is_whole ?a_is_letter ?l_is_letter ?c_is_letter ?k_is_letter ?a_is_pair ?l_is_pair ?c_is_pair ?k_is_pair ?a_check_pairs ?l_check_pairs ?c_check_pairs ?k_check_pairs ?a_Trade___init__ ?i_Trade___init__ ?l_Trade___init__ ?c_Trade___init__ ?k_Trade___init__ ?a_Trade_letters ?g_Trade_letters ?t_Trade_letters ?r_Trade_letters ?l_Trade_letters ?c_Trade_letters ?k_Trade_letters ?a_Trade_pairs ?g_Trade_pairs ?t_Trade_pairs ?r_Trade_pairs ?l_Trade_pairs ?c_Trade_pairs ?k_Trade_pairs ?a_Trade___eq__ ?i_Trade___eq__ ?l_Trade___eq__ ?c_Trade___eq__ ?k_Trade___eq__ ?a_check_trade ?l_check_trade ?c_check_trade ?k_check_trade ?a_may_change ?l_may_change ?c_may_change ?k_may_change ?a_bars_of ?l_bars_of ?c_bars_of ?k_bars_of ?a_is_row ?l_is_row ?c_is_row ?k_is_row ?a_check_row ?l_check_row ?c_check_row ?k_check_row ?a_check_rows ?l_check_rows ?c_check_rows ?k_check_rows ?a_alike ?l_alike ?c_alike ?k_alike ?a_find_bar ?l_find_bar ?c_find_bar ?k_find_bar ?a_only ?l_only ?c_only ?k_only ?a_first_unlike ?l_first_unlike ?c_first_unlike ?k_first_unlike ?a_least ?l_least ?c_least ?k_least ?a_first_letters ?l_first_letters ?c_first_letters ?k_first_letters ?a_without ?l_without ?c_without ?k_without ?a_least_of ?l_least_of ?c_least_of ?k_least_of ?a_parts ?l_parts ?c_parts ?k_parts ?a_hang ?l_hang ?c_hang ?k_hang ?a_choose ?l_choose ?c_choose ?k_choose ?a__law_mix ?l__law_mix ?c__law_mix ?k__law_mix ?a__law_next ?l__law_next ?c__law_next ?k__law_next ?a__law_pairs ?l__law_pairs ?c__law_pairs ?k__law_pairs ?a__law_row ?l__law_row ?c__law_row ?k__law_row ?a__law_may ?l__law_may ?c__law_may ?k__law_may ?a__law_lots ?l__law_lots ?c__law_lots ?k__law_lots ?a_law ?l_law ?c_law ?k_law ?z_all ?z_bool ?z_enumerate ?z_int ?z_isinstance ?z_len ?z_list ?z_max ?z_min ?z_range ?z_set ?z_sorted ?z_tuple ?v_MOST_LETTERS ?v_MOST_IN_ROW ?pg ?hd ?po ?sa ?mk ?kc ?nl ?np ?ha ?hn ?htk ?hm ?me ?nt ?nf
    (case aC => k_is)
    (case a_is_whole => k_is)
    (case l_is_whole => k_is)
    (case c_is_whole => k_is)
    (case k_is_whole => k_is)
    (case a_is_letter => k_is)
    (case l_is_letter => k_is)
    (case c_is_letter => k_is)
    (case k_is_letter => k_is)
    (case a_is_pair => k_is)
    (case l_is_pair => k_is)
    (case c_is_pair => k_is)
    (case k_is_pair => k_is)
    (case a_check_pairs => k_is)
    (case l_check_pairs => k_is)
    (case c_check_pairs => k_is)
    (case k_check_pairs => k_is)
    (case a_Trade___init__ => k_is)
    (case i_Trade___init__ => k_is)
    (case l_Trade___init__ => k_is)
    (case c_Trade___init__ => k_is)
    (case k_Trade___init__ => k_is)
    (case a_Trade_letters => k_is)
    (case g_Trade_letters => k_is)
    (case t_Trade_letters => k_is)
    (case r_Trade_letters => k_is)
    (case l_Trade_letters => k_is)
    (case c_Trade_letters => k_is)
    (case k_Trade_letters => k_is)
    (case a_Trade_pairs => k_is)
    (case g_Trade_pairs => k_is)
    (case t_Trade_pairs => k_is)
    (case r_Trade_pairs => k_is)
    (case l_Trade_pairs => k_is)
    (case c_Trade_pairs => k_is)
    (case k_Trade_pairs => k_is)
    (case a_Trade___eq__ => k_is)
    (case i_Trade___eq__ => k_is)
    (case l_Trade___eq__ => k_is)
    (case c_Trade___eq__ => k_is)
    (case k_Trade___eq__ => k_is)
    (case a_check_trade => k_is)
    (case l_check_trade => k_is)
    (case c_check_trade => k_is)
    (case k_check_trade => k_is)
    (case a_may_change => k_is)
    (case l_may_change => k_is)
    (case c_may_change => k_is)
    (case k_may_change => k_is)
    (case a_bars_of => k_is)
    (case l_bars_of => k_is)
    (case c_bars_of => k_is)
    (case k_bars_of => k_is)
    (case a_is_row => k_is)
    (case l_is_row => k_is)
    (case c_is_row => k_is)
    (case k_is_row => k_is)
    (case a_check_row => k_is)
    (case l_check_row => k_is)
    (case c_check_row => k_is)
    (case k_check_row => k_is)
    (case a_check_rows => k_is)
    (case l_check_rows => k_is)
    (case c_check_rows => k_is)
    (case k_check_rows => k_is)
    (case a_alike => k_is)
    (case l_alike => k_is)
    (case c_alike => k_is)
    (case k_alike => k_is)
    (case a_find_bar => k_is)
    (case l_find_bar => k_is)
    (case c_find_bar => k_is)
    (case k_find_bar => k_is)
    (case a_only => k_is)
    (case l_only => k_is)
    (case c_only => k_is)
    (case k_only => k_is)
    (case a_first_unlike => k_is)
    (case l_first_unlike => k_is)
    (case c_first_unlike => k_is)
    (case k_first_unlike => k_is)
    (case a_least => k_is)
    (case l_least => k_is)
    (case c_least => k_is)
    (case k_least => k_is)
    (case a_first_letters => k_is)
    (case l_first_letters => k_is)
    (case c_first_letters => k_is)
    (case k_first_letters => k_is)
    (case a_without => k_is)
    (case l_without => k_is)
    (case c_without => k_is)
    (case k_without => k_is)
    (case a_least_of => k_is)
    (case l_least_of => k_is)
    (case c_least_of => k_is)
    (case k_least_of => k_is)
    (case a_parts => k_is)
    (case l_parts => k_is)
    (case c_parts => k_is)
    (case k_parts => k_is)
    (case a_hang => k_is)
    (case l_hang => k_is)
    (case c_hang => k_is)
    (case k_hang => k_is)
    (case a_choose => k_is)
    (case l_choose => k_is)
    (case c_choose => k_is)
    (case k_choose => k_is)
    (case a__law_mix => k_is)
    (case l__law_mix => k_is)
    (case c__law_mix => k_is)
    (case k__law_mix => k_is)
    (case a__law_next => k_is)
    (case l__law_next => k_is)
    (case c__law_next => k_is)
    (case k__law_next => k_is)
    (case a__law_pairs => k_is)
    (case l__law_pairs => k_is)
    (case c__law_pairs => k_is)
    (case k__law_pairs => k_is)
    (case a__law_row => k_is)
    (case l__law_row => k_is)
    (case c__law_row => k_is)
    (case k__law_row => k_is)
    (case a__law_may => k_is)
    (case l__law_may => k_is)
    (case c__law_may => k_is)
    (case k__law_may => k_is)
    (case a__law_lots => k_is)
    (case l__law_lots => k_is)
    (case c__law_lots => k_is)
    (case k__law_lots => k_is)
    (case a_law => k_is)
    (case l_law => k_is)
    (case c_law => k_is)
    (case k_law => k_is)
    (case z_all => k_is)
    (case z_bool => k_is)
    (case z_enumerate => k_is)
    (case z_int => k_is)
    (case z_isinstance => k_is)
    (case z_len => k_is)
    (case z_list => k_is)
    (case z_max => k_is)
    (case z_min => k_is)
    (case z_range => k_is)
    (case z_set => k_is)
    (case z_sorted => k_is)
    (case z_tuple => k_is)
    (case v_MOST_LETTERS => k_is)
    (case v_MOST_IN_ROW => k_is)
    (case pg => first | k_is | rfl | decide +kernel)
    (case hd => first | k_is | rfl | decide +kernel)
    (case po => first | k_is | rfl | decide +kernel)
    (case sa => first | k_is | rfl | decide +kernel)
    (case mk => first | k_is | rfl | decide +kernel)
    (case kc => first | k_is | rfl | decide +kernel)
    (case nl => first | k_is | rfl | decide +kernel)
    (case np => first | k_is | rfl | decide +kernel)
    (case ha => first | k_is | rfl | decide +kernel)
    (case hn => first | k_is | rfl | decide +kernel)
    (case htk => first | k_is | rfl | decide +kernel)
    (case hm => first | k_is | rfl | decide +kernel)
    (case me => first | k_is | rfl | decide +kernel)
    (case nt => first | k_is | rfl | decide +kernel)
    (case nf => first | k_is | rfl | decide +kernel)
