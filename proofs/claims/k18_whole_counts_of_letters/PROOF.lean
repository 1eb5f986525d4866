import PyProof.Rows.All
import Wide.All
import OpenK.AllK
import Wide.FinOn
import HandS.ForMost
import HandS.TupAny
import HandS.TupLe
import HandS.Deep
import HandS.Property
import HandS.OwnEq
import HandS.IsInst
import HandS.More
import HandS.Steps
import HandS.Walk
import KE.GoesMore
import KE.GoesEnum
import PyProof.EnumMake
import HandS.Dict
import PyProof.SeqIndex
import HandS.Iter
import KE.KDictWalk
import HandS.Codes
import HandS.Style
import KE.SortData
import KE.DataMinMax
import PyProof.Rows.RowBridgeK
import HandS.ExcInit
import HandS.TryOnly
import HandS.WordsExc
import HandS.ExcCtx
import HandS.Conv
import HandS.SetFor
import HandS.Strs
import KE.KIndexOf
import HandS.NoneIn
import HandS.TupMul
import KE.KDictSum
import KE.KDictCopyH
import PyProof.Transfer
import HandS.Wide
import PyProof.Rows.SumAny
import HandS.CallLocal
import KE.KeyNested
import HandS.TupSets
import HandS.Text
import PyProof.Rows.BitMore
import PySem.Challenge.RW_placetrade_k18_whole_counts_of_letters
set_option Elab.async false
set_option linter.all false
set_option maxRecDepth 10000000
namespace Pt
open PySem PySem.Spec PyProof.Rows L2
def SqF (H : Hp) (a : Addr) (xs : List V) : Prop := ∃ o, H a = some (.frz o (.tup xs)) ∧ o.dict = none
theorem SqF.sq {K : PySem.W.Frag} {H : Hp} {a : Addr} {xs : List V} (h : SqF H a xs) : SqT K H a xs := let ⟨o, e, _⟩ := h; .inl (.inr ⟨o, e⟩)
def FzF (H : Hp) (a : Addr) (xs : List V) : Prop := ∃ o, H a = some (.frz o (.lst xs))
theorem FzF.sq {K : PySem.W.Frag} {H : Hp} {a : Addr} {xs : List V} (h : FzF H a xs) : SqL K H a xs := .inl (.inr h)
mutual
inductive Td (K : PySem.W.Frag) (H : Hp) : V → PyData → Prop
  | non : Td K H .non .none
  | bl (b : Bool) : Td K H (.bl b) (.bool b)
  | int (i : Int) : Td K H (.int i) (.int i)
  | str (x : Str) : Td K H (.str x) (.str x)
  | tup {a : Addr} {xs : List V} {ds : List PyData} : SqF H a xs → TdAll K H xs ds → Td K H (.ref a) (.tuple ds)
  | lst {a : Addr} {xs : List V} {ds : List PyData} : FzF H a xs → TdAll K H xs ds → Td K H (.ref a) (.list ds)
inductive TdAll (K : PySem.W.Frag) (H : Hp) : List V → List PyData → Prop
  | nil : TdAll K H [] []
  | cons {v : V} {vs : List V} {d : PyData} {ds : List PyData} : Td K H v d → TdAll K H vs ds → TdAll K H (v :: vs) (d :: ds)
end
variable {K : PySem.W.Frag} {C : Addr} {H H' H1 H2 : Hp} {v w x y : V} {vs : List V} {d e : PyData} {ds es : List PyData}
def Tx (H H' : Hp) : Prop := ∀ a o u, H a = some (.frz o u) → H' a = some (.frz o u)
theorem Tx.of (e : Same H H') : Tx H H' := fun a o u h => e _ _ h
theorem Tx.trans (a : Tx H H1) (b : Tx H1 H2) : Tx H H2 := fun p o u h => b p o u (a p o u h)
theorem Tx.fzF (t : Tx H H') {a : Addr} {xs : List V} (h : FzF H a xs) : FzF H' a xs := let ⟨o, e⟩ := h; ⟨o, t _ _ _ e⟩
theorem Tx.sqF (t : Tx H H') {a : Addr} {xs : List V} (h : SqF H a xs) : SqF H' a xs := let ⟨o, e, n⟩ := h; ⟨o, t _ _ _ e, n⟩
mutual
theorem Td.mono (t : Tx H H') : ∀ (d : PyData) (v : V), Td K H v d → Td K H' v d
  | .none, _, h => by cases h; exact .non
  | .bool b, _, h => by cases h; exact .bl b
  | .int i, _, h => by cases h; exact .int i
  | .str x, _, h => by cases h; exact .str x
  | .list ds, _, h => by
    cases h with
    | lst s a => exact .lst (t.fzF s) (TdAll.mono t ds _ a)
  | .tuple ds, _, h => by
    cases h with
    | tup s a => exact .tup (t.sqF s) (TdAll.mono t ds _ a)
  | .dict _, _, h => by cases h
theorem TdAll.mono (t : Tx H H') : ∀ (ds : List PyData) (vs : List V), TdAll K H vs ds → TdAll K H' vs ds
  | [], _, h => by cases h; exact .nil
  | d :: ds, _, h => by
    cases h with
    | cons a b => exact .cons (Td.mono t d _ a) (TdAll.mono t ds _ b)
end
mutual
theorem Td.dp : ∀ (d : PyData) (v : V), Td K H v d → Dp K H v d
  | .none, _, h => by cases h; exact .non
  | .bool b, _, h => by cases h; exact .bl b
  | .int i, _, h => by cases h; exact .int i
  | .str x, _, h => by cases h; exact .str x
  | .list ds, _, h => by
    cases h with
    | lst s a => exact .lst s.sq (TdAll.dp ds _ a)
  | .tuple ds, _, h => by
    cases h with
    | tup s a => exact .tup s.sq (TdAll.dp ds _ a)
  | .dict _, _, h => by cases h
theorem TdAll.dp : ∀ (ds : List PyData) (vs : List V), TdAll K H vs ds → DpAll K H vs ds
  | [], _, h => by cases h; exact .nil
  | d :: ds, _, h => by
    cases h with
    | cons a b => exact .cons (Td.dp d _ a) (TdAll.dp ds _ b)
end
theorem TdAll.length : ∀ {vs : List V} {ds : List PyData}, TdAll K H vs ds → vs.length = ds.length
  | _, _, .nil => rfl
  | _, _, .cons _ t => congrArg (· + 1) (TdAll.length t)
theorem TdAll.append : ∀ {vs ws : List V} {ds es : List PyData}, TdAll K H vs ds → TdAll K H ws es → TdAll K H (vs ++ ws) (ds ++ es)
  | _, _, _, _, .nil, s => s
  | _, _, _, _, .cons r t, s => .cons r (TdAll.append t s)
theorem TdAll.take : ∀ {vs : List V} {ds : List PyData} (n : Nat), TdAll K H vs ds → TdAll K H (vs.take n) (ds.take n)
  | _, _, 0, _ => .nil
  | _, _, _ + 1, .nil => .nil
  | _, _, n + 1, .cons r t => .cons r (TdAll.take n t)
theorem TdAll.drop : ∀ {vs : List V} {ds : List PyData} (n : Nat), TdAll K H vs ds → TdAll K H (vs.drop n) (ds.drop n)
  | _, _, 0, r => r
  | _, _, _ + 1, .nil => .nil
  | _, _, n + 1, .cons _ t => TdAll.drop n t
theorem TdAll.get : ∀ {vs : List V} {ds : List PyData} {i : Nat} {d : PyData}, TdAll K H vs ds → ds[i]? = some d → ∃ v, vs[i]? = some v ∧ Td K H v d
  | _, _, _, _, .nil, e => by simp at e
  | _, _, 0, _, .cons r _, e => by simp at e; subst e; exact ⟨_, rfl, r⟩
  | _, _, i + 1, _, .cons _ t, e => by
    obtain ⟨v, h1, h2⟩ := TdAll.get (i := i) t (by simpa using e)
    exact ⟨v, by simpa using h1, h2⟩
theorem TdAll.get' : ∀ {vs : List V} {ds : List PyData} {i : Nat} {v : V}, TdAll K H vs ds → vs[i]? = some v → ∃ d, ds[i]? = some d ∧ Td K H v d
  | _, _, _, _, .nil, e => by simp at e
  | _, _, 0, _, .cons r _, e => by simp at e; subst e; exact ⟨_, rfl, r⟩
  | _, _, i + 1, _, .cons _ t, e => by
    obtain ⟨v, h1, h2⟩ := TdAll.get' (i := i) t (by simpa using e)
    exact ⟨v, by simpa using h1, h2⟩
theorem TdAll.set : ∀ {vs : List V} {ds : List PyData} (i : Nat) {v : V} {d : PyData}, TdAll K H vs ds → Td K H v d → TdAll K H (vs.set i v) (ds.set i d)
  | _, _, _, _, _, .nil, _ => .nil
  | _, _, 0, _, _, .cons _ t, h => .cons h t
  | _, _, i + 1, _, _, .cons r t, h => .cons r (TdAll.set i t h)
theorem Td.int_of {i : Int} (h : Td K H v (.int i)) : v = .int i := by cases h; rfl
theorem Td.bl_of {b : Bool} (h : Td K H v (.bool b)) : v = .bl b := by cases h; rfl
theorem Td.lst_of (h : Td K H v (.list ds)) : ∃ a xs, v = .ref a ∧ FzF H a xs ∧ TdAll K H xs ds := by
  cases h with
  | lst s a => exact ⟨_, _, rfl, s, a⟩
theorem Td.tup_of (h : Td K H v (.tuple ds)) : ∃ a xs, v = .ref a ∧ SqF H a xs ∧ TdAll K H xs ds := by
  cases h with
  | tup s a => exact ⟨_, _, rfl, s, a⟩
def iL (l : List Int) : List PyData := l.map .int
abbrev row (l : List Int) : PyData := .tuple (iL l)
theorem TdAll.iL_of : ∀ {l : List Int} {vs : List V}, TdAll K H vs (iL l) → vs = l.map V.int
  | [], _, h => by cases h; rfl
  | i :: r, _, h => by
    cases h with
    | cons a b => rw [a.int_of, TdAll.iL_of b]; rfl
theorem TdAll.of_iL : ∀ (l : List Int), TdAll K H (l.map V.int) (iL l)
  | [] => .nil
  | i :: r => .cons (.int i) (TdAll.of_iL r)
theorem iL_len (l : List Int) : (iL l).length = l.length := List.length_map _
theorem iL_get (l : List Int) (i : Nat) : (iL l)[i]? = l[i]?.map .int := List.getElem?_map
theorem iL_app (l m : List Int) : iL (l ++ m) = iL l ++ iL m := List.map_append
def pairD (p : Int × Int) : PyData := .tuple [.int p.1, .int p.2]
def pairsD (ps : List (Int × Int)) : PyData := .tuple (ps.map pairD)
inductive Ct where
  | u
  | d (d : PyData)
  | r (v : V)
  | l (p : Addr) (ds : List PyData)
  | s (p : Addr) (ds : List PyData)
  | z (p : Addr) (ds : List PyData)
  | h (p c : Addr)
  | t (n : Int) (ps : List (Int × Int))
  | o (p : Addr) (u : HO) (ks : List (Addr × List V))
  | k (p : Addr) (u : HO) (ks : List (Addr × List V))
  | y (p : Addr) (ts : List (Int × List (Int × Int)))
  | n (L p q : Addr) (n : Int) (ps : List (Int × Int)) (ds : List PyData)
def lflds (t : V) (q : Addr) : List (Str × V) := [("_trade", t), ("_rows", .ref q)]
def flds (n : Int) (q : Addr) : List (Str × V) := [("_letters", .int n), ("_pairs", .ref q)]
def Fz (K : PySem.W.Frag) (H : Hp) (a : Addr) (xs : List V) : Prop :=
  (∃ o, H a = some (.frz o (.lst xs))) ∨
    ∃ (o : Obj) (its : Array Value) (n : Nat), K.lookup a = some o ∧ o.cls = .type "list" ∧ o.dict = none ∧ o.data = .seq its n ∧ its.size ≤ sizeLine ∧ Vals xs its.toList
theorem Fz.sq {a : Addr} {xs : List V} (h : Fz K H a xs) : SqL K H a xs := by
  rcases h with ⟨o, h⟩ | h
  · exact .inl (.inr ⟨o, h⟩)
  · exact .inr h
def Wr : HO → Prop
  | .lst _ => True
  | .ext _ => True
  | .dK _ => True
  | _ => False
def TrAll (K : PySem.W.Frag) (C : Addr) (H : Hp) : List V → List (Int × List (Int × Int)) → Prop
  | [], [] => True
  | v :: vs, t :: ts => (∃ p dx q, v = .ref p ∧ H p = some (.ins C dx (flds t.1 q)) ∧ Td K H (.ref q) (pairsD t.2)) ∧ TrAll K C H vs ts
  | _, _ => False
theorem TrAll.mono {C : Addr} (e : Tx H H') (f : ∀ a o, H a = some o → ¬ Wr o → H' a = some o) : ∀ {vs : List V} {ts : List (Int × List (Int × Int))}, TrAll K C H vs ts → TrAll K C H' vs ts
  | [], [], _ => True.intro
  | _ :: _, _ :: _, ⟨⟨p, dx, q, a, b, c⟩, r⟩ => ⟨⟨p, dx, q, a, f _ _ b (fun z => z), Td.mono e _ _ c⟩, TrAll.mono e f r⟩
  | [], _ :: _, h => h.elim
  | _ :: _, [], h => h.elim
theorem TrAll.length {C : Addr} : ∀ {vs : List V} {ts : List (Int × List (Int × Int))}, TrAll K C H vs ts → vs.length = ts.length
  | [], [], _ => rfl
  | _ :: _, _ :: _, ⟨_, r⟩ => congrArg (· + 1) (TrAll.length r)
  | [], _ :: _, h => h.elim
  | _ :: _, [], h => h.elim
theorem TrAll.snoc {C : Addr} {v : V} {t : Int × List (Int × Int)} (hv : ∃ p dx q, v = .ref p ∧ H p = some (.ins C dx (flds t.1 q)) ∧ Td K H (.ref q) (pairsD t.2)) : ∀ {vs : List V} {ts : List (Int × List (Int × Int))}, TrAll K C H vs ts → TrAll K C H (vs ++ [v]) (ts ++ [t])
  | [], [], _ => ⟨hv, True.intro⟩
  | _ :: _, _ :: _, ⟨a, r⟩ => ⟨a, TrAll.snoc hv r⟩
  | [], _ :: _, h => h.elim
  | _ :: _, [], h => h.elim
theorem TrAll.get {C : Addr} : ∀ {vs : List V} {ts : List (Int × List (Int × Int))} {k : Nat} {v : V}, TrAll K C H vs ts → vs[k]? = some v → ∃ t, ts[k]? = some t ∧ ∃ p dx q, v = .ref p ∧ H p = some (.ins C dx (flds t.1 q)) ∧ Td K H (.ref q) (pairsD t.2)
  | _ :: _, t :: _, 0, _, ⟨a, _⟩, e => ⟨t, rfl, by cases e; exact a⟩
  | _ :: _, _ :: _, k + 1, _, ⟨_, r⟩, e => TrAll.get (k := k) r e
  | [], _, _, _, _, e => by simp at e
  | _ :: _, [], _, _, h, _ => h.elim
def CtAt (K : PySem.W.Frag) (C : Addr) (H : Hp) (v : V) : Ct → Prop
  | .u => True
  | .d d => Td K H v d
  | .r w => v = w
  | .l p ds => v = .ref p ∧ ∃ xs, H p = some (.lst xs) ∧ TdAll K H xs ds
  | .s p ds => v = .ref p ∧ ∃ xs, H p = some (.lst xs) ∧ TdAll K H xs ds
  | .z p ds => v = .ref p ∧ ∃ xs, Fz K H p xs ∧ TdAll K H xs ds
  | .h p c => v = .ref p ∧ p ≠ c ∧ ∃ (s k : Int) (cells : List Int), H p = some (.lst [.int s, .ref c, .int k]) ∧ H c = some (.lst (cells.map V.int)) ∧ cells.length ≤ 63
  | .t n ps => ∃ p dx q, v = .ref p ∧ H p = some (.ins C dx (flds n q)) ∧ Td K H (.ref q) (pairsD ps)
  | .o p u ks => v = .ref p ∧ H p = some u ∧ Wr u ∧ ∀ e ∈ ks, SqF H e.1 e.2
  | .k p u ks => v = .ref p ∧ (∃ o, H p = some (.frz o u)) ∧ ∀ e ∈ ks, SqF H e.1 e.2
  | .y p ts => v = .ref p ∧ ∃ xs, H p = some (.lst xs) ∧ TrAll K C H xs ts
  | .n L p q n ps ds => v = .ref p ∧ (∃ dx t, H p = some (.ins L dx (lflds (.ref t) q)) ∧ ∃ dy r, H t = some (.ins C dy (flds n r)) ∧ Td K H (.ref r) (pairsD ps)) ∧ ∃ xs, H q = some (.lst xs) ∧ TdAll K H xs ds
def Ct.adr : Ct → List Addr
  | .l p _ => [p]
  | .s p _ => [p]
  | .h p c => [p, c]
  | .o p _ _ => [p]
  | .y p _ => [p]
  | .n _ _ q _ _ _ => [q]
  | _ => []
def Ct.own : Ct → Bool
  | .l _ _ => true
  | .h _ _ => true
  | .o _ _ _ => true
  | .y _ _ => true
  | .n _ _ _ _ _ _ => true
  | _ => false
def Fr (T : List Addr) (H H' : Hp) : Prop := ∀ a o, H a = some o → a ∉ T → H' a = some o
def LT (T : List Addr) (H : Hp) : Prop := ∀ a ∈ T, ∃ u, H a = some u ∧ Wr u
theorem Fr.of (e : Same H H') (T : List Addr) : Fr T H H' := fun a o h _ => e a o h
theorem Fr.same (f : Fr [] H H') : Same H H' := fun a o h => f a o h (by simp)
theorem Fr.trans {T : List Addr} (f : Fr T H H1) (g : Fr T H1 H2) : Fr T H H2 := fun a o h n => g a o (f a o h n) n
theorem Fr.upd {p : Addr} {o : HO} : Fr [p] H (upd H p o) := fun a u h n => by rw [upd_ne (by simpa using n)]; exact h
theorem LT.nil : LT [] H := fun a h => by simp at h
theorem LT.one {p : Addr} {xs : List V} (h : H p = some (.lst xs)) : LT [p] H := fun a m => ⟨.lst xs, by rw [show a = p by simpa using m]; exact h, True.intro⟩
theorem LT.oneW {p : Addr} {u : HO} (h : H p = some u) (w : Wr u) : LT [p] H := fun a m => ⟨u, by rw [show a = p by simpa using m]; exact h, w⟩
theorem LT.ne {T : List Addr} (l : LT T H) {a : Addr} {o : HO} (h : H a = some o) (n : ¬ Wr o) : a ∉ T := fun m => by
  obtain ⟨u, e, z⟩ := l a m
  rw [h] at e
  cases e
  exact n z
theorem Tx.fr {T : List Addr} (l : LT T H) (f : Fr T H H') : Tx H H' := fun a o u r => f _ _ r (l.ne r fun z => z)
theorem CtAt.fr {T : List Addr} (l : LT T H) (f : Fr T H H') : ∀ {c : Ct}, (∀ a ∈ c.adr, a ∉ T) → CtAt K C H v c → CtAt K C H' v c
  | .u, _, _ => True.intro
  | .d d, _, h => Td.mono (.fr l f) d v h
  | .r _, _, h => h
  | .l q ds, n, ⟨a, ys, b, c⟩ => ⟨a, ys, f _ _ b (n q (by simp [Ct.adr])), TdAll.mono (.fr l f) ds ys c⟩
  | .s q ds, n, ⟨a, ys, b, c⟩ => ⟨a, ys, f _ _ b (n q (by simp [Ct.adr])), TdAll.mono (.fr l f) ds ys c⟩
  | .z q ds, n, ⟨a, ys, b, c⟩ => ⟨a, ys, by
      rcases b with ⟨o, b⟩ | b
      · exact .inl ⟨o, f _ _ b (l.ne b fun z => z)⟩
      · exact .inr b, TdAll.mono (.fr l f) ds ys c⟩
  | .h q c, n, ⟨a, ne, s, k, cs, h1, h2, h3⟩ => ⟨a, ne, s, k, cs, f _ _ h1 (n q (by simp [Ct.adr])), f _ _ h2 (n c (by simp [Ct.adr])), h3⟩
  | .t m ps, _, ⟨q, dx, r, a, b, c⟩ => ⟨q, dx, r, a, f _ _ b (l.ne b fun z => z), Td.mono (.fr l f) _ _ c⟩
  | .o q u ks, n, ⟨a, b, z, k⟩ => ⟨a, f _ _ b (n q (by simp [Ct.adr])), z, fun e m => (Tx.fr l f).sqF (k e m)⟩
  | .k q u ks, _, ⟨a, ⟨o, b⟩, k⟩ => ⟨a, ⟨o, Tx.fr l f _ _ _ b⟩, fun e m => (Tx.fr l f).sqF (k e m)⟩
  | .y q ts, n, ⟨a, ys, b, c⟩ => ⟨a, ys, f _ _ b (n q (by simp [Ct.adr])), c.mono (.fr l f) fun a o r z => f _ _ r (l.ne r z)⟩
  | .n L p q m ps ds, n, ⟨a, ⟨dx, t, b1, dy, r, b2, b3⟩, ys, b, c⟩ => ⟨a, ⟨dx, t, f _ _ b1 (l.ne b1 fun z => z), dy, r, f _ _ b2 (l.ne b2 fun z => z), Td.mono (.fr l f) _ _ b3⟩, ys, f _ _ b (n q (by simp [Ct.adr])), TdAll.mono (.fr l f) ds ys c⟩
theorem CtAt.mono (e : Same H H') {c : Ct} (h : CtAt K C H v c) : CtAt K C H' v c := h.fr LT.nil (Fr.of e []) fun a _ m => by simp at m
theorem CtAt.there : ∀ {c : Ct} {a : Addr}, CtAt K C H v c → a ∈ c.adr → ∃ u, H a = some u ∧ Wr u
  | .l p ds, a, ⟨_, xs, b, _⟩, h => by
    have e : a = p := by simpa [Ct.adr] using h
    exact ⟨.lst xs, e ▸ b, True.intro⟩
  | .s p ds, a, ⟨_, xs, b, _⟩, h => by
    have e : a = p := by simpa [Ct.adr] using h
    exact ⟨.lst xs, e ▸ b, True.intro⟩
  | .h p c, a, ⟨_, _, s, k, cs, h1, h2, _⟩, h => by
    have e : a = p ∨ a = c := by simpa [Ct.adr] using h
    rcases e with e | e
    · exact ⟨.lst _, e ▸ h1, True.intro⟩
    · exact ⟨.lst _, e ▸ h2, True.intro⟩
  | .o p u ks, a, ⟨_, b, z, _⟩, h => by
    have e : a = p := by simpa [Ct.adr] using h
    exact ⟨_, e ▸ b, z⟩
  | .u, a, _, h => by simp [Ct.adr] at h
  | .d _, a, _, h => by simp [Ct.adr] at h
  | .r _, a, _, h => by simp [Ct.adr] at h
  | .z _ _, a, _, h => by simp [Ct.adr] at h
  | .t _ _, a, _, h => by simp [Ct.adr] at h
  | .k _ _ _, a, _, h => by simp [Ct.adr] at h
  | .y p ts, a, ⟨_, xs, b, _⟩, h => by
    have e : a = p := by simpa [Ct.adr] using h
    exact ⟨.lst xs, e ▸ b, True.intro⟩
  | .n L p q n ps ds, a, ⟨_, _, xs, b, _⟩, h => by
    have e : a = q := by simpa [Ct.adr] using h
    exact ⟨.lst xs, e ▸ b, True.intro⟩
def SlotAt (K : PySem.W.Frag) (C : Addr) (H : Hp) (o : Option (Option V)) : Ct → Prop
  | .u => True
  | c => ∃ v, o = some (some v) ∧ CtAt K C H v c
theorem SlotAt.mk {o : Option (Option V)} {c : Ct} (e : o = some (some v)) (h : CtAt K C H v c) : SlotAt K C H o c := by
  cases c with
  | u => exact True.intro
  | _ => exact ⟨v, e, h⟩
theorem SlotAt.to {o : Option (Option V)} {c : Ct} (h : SlotAt K C H o c) (hc : c ≠ .u) : ∃ v, o = some (some v) ∧ CtAt K C H v c := by
  cases c with
  | u => exact absurd rfl hc
  | _ => exact h
theorem SlotAt.map {H' : Hp} {o : Option (Option V)} {c : Ct} (f : ∀ v, CtAt K C H v c → CtAt K C H' v c) (h : SlotAt K C H o c) : SlotAt K C H' o c := by
  cases c with
  | u => exact True.intro
  | _ => obtain ⟨v, e, a⟩ := h; exact ⟨v, e, f v a⟩
structure Wd (K : PySem.W.Frag) (C : Addr) (S : List Addr) (G : List (V × PyData)) (H0 H : Hp) (σ : L2.St) (Γ : List Ct) : Prop where
  fr : Fr S H0 H
  sl : LT S H
  len : σ.length = Γ.length
  at_ : ∀ (i : Nat) (c : Ct), Γ[i]? = some c → SlotAt K C H σ[i]? c
  wr : ∀ (i : Nat) (c : Ct), Γ[i]? = some c → c.own = true → ∀ a ∈ c.adr, a ∈ S ∨ H0 a = none
  dj : ∀ (i j : Nat) (c c' : Ct) (a : Addr), Γ[i]? = some c → Γ[j]? = some c' → a ∈ c.adr → a ∈ c'.adr → i = j ∨ (c.own = false ∧ c'.own = false)
  gh : ∀ p ∈ G, Td K H p.1 p.2
section
variable {G : List (V × PyData)} {S : List Addr} {H0 : Hp} {σ : L2.St} {Γ : List Ct} {i : Nat} {c : Ct}
theorem Wd.get (w : Wd K C S G H0 H σ Γ) (h : Γ[i]? = some c) (hc : c ≠ .u := by intro z; cases z) : ∃ v, σ[i]? = some (some v) ∧ CtAt K C H v c := (w.at_ i c h).to hc
theorem Wd.mono (w : Wd K C S G H0 H σ Γ) (e : Same H H') : Wd K C S G H0 H' σ Γ :=
  ⟨fun a o h n => e a o (w.fr a o h n), fun a m => let ⟨u, h, z⟩ := w.sl a m; ⟨u, e _ _ h, z⟩, w.len, fun i c h => (w.at_ i c h).map fun _ => CtAt.mono e, w.wr, w.dj, fun p m => Td.mono (.of e) _ _ (w.gh p m)⟩
theorem Wd.fr0 (w : Wd K C [] G H0 H σ Γ) : Same H0 H := w.fr.same
theorem set_cases {α : Type} {l : List α} {i j : Nat} {x y : α} (h : (l.set i x)[j]? = some y) : (j = i ∧ y = x ∧ i < l.length) ∨ (j ≠ i ∧ l[j]? = some y) := by
  rw [List.getElem?_set] at h
  split at h
  · split at h
    · rename_i e hl
      cases h
      exact .inl ⟨e.symm, rfl, hl⟩
    · cases h
  · rename_i e
    exact .inr ⟨fun z => e z.symm, h⟩
theorem Wd.setC (w : Wd K C S G H0 H σ Γ) (i : Nat) (h : CtAt K C H v c) (hw : c.own = true → ∀ a ∈ c.adr, a ∈ S ∨ H0 a = none) (hd : ∀ j c' a, j ≠ i → Γ[j]? = some c' → a ∈ c.adr → a ∈ c'.adr → False) : Wd K C S G H0 H (σ.set i (some v)) (Γ.set i c) := by
  refine ⟨w.fr, w.sl, by rw [List.length_set, List.length_set, w.len], fun j c' hj => ?_, fun j c' hj n => ?_, fun j k c1 c2 a h1 h2 m1 m2 => ?_, w.gh⟩
  · rcases set_cases hj with ⟨rfl, rfl, hl⟩ | ⟨ne, hj⟩
    · refine .mk ?_ h
      rw [List.getElem?_set_self (by rw [w.len]; exact hl)]
    · rw [List.getElem?_set_ne (Ne.symm ne)]
      exact w.at_ j c' hj
  · rcases set_cases hj with ⟨rfl, rfl, hl⟩ | ⟨ne, hj⟩
    · exact hw n
    · exact w.wr j c' hj n
  · rcases set_cases h1 with ⟨q1, q2, hl⟩ | ⟨ne, q1⟩
    · rcases set_cases h2 with ⟨q3, q4, _⟩ | ⟨ne2, q3⟩
      · exact .inl (by rw [q1, q3])
      · exact (hd k c2 a ne2 q3 (q2 ▸ m1) m2).elim
    · rcases set_cases h2 with ⟨q3, q4, _⟩ | ⟨ne2, q3⟩
      · exact (hd j c1 a ne q1 (q4 ▸ m2) m1).elim
      · exact w.dj j k c1 c2 a q1 q3 m1 m2
theorem Wd.set (w : Wd K C S G H0 H σ Γ) (i : Nat) (h : CtAt K C H v c) (ha : c.adr = [] := by rfl) : Wd K C S G H0 H (σ.set i (some v)) (Γ.set i c) :=
  w.setC i h (fun _ a m => by rw [ha] at m; simp at m) fun j c' a _ _ m _ => by rw [ha] at m; simp at m
theorem Wd.drop (w : Wd K C S G H0 H σ Γ) (i : Nat) : Wd K C S G H0 H σ (Γ.set i .u) := by
  refine ⟨w.fr, w.sl, by rw [List.length_set, w.len], fun j c' hj => ?_, fun j c' hj n => ?_, fun j k c1 c2 a h1 h2 m1 m2 => ?_, w.gh⟩
  · rcases set_cases hj with ⟨rfl, rfl, hl⟩ | ⟨ne, hj⟩
    · exact True.intro
    · exact w.at_ j c' hj
  · rcases set_cases hj with ⟨rfl, rfl, hl⟩ | ⟨ne, hj⟩
    · intro a m; simp [Ct.adr] at m
    · exact w.wr j c' hj n
  · rcases set_cases h1 with ⟨q1, q2, hl⟩ | ⟨ne, q1⟩
    · rw [q2] at m1; simp [Ct.adr] at m1
    · rcases set_cases h2 with ⟨q3, q4, _⟩ | ⟨ne2, q3⟩
      · rw [q4] at m2; simp [Ct.adr] at m2
      · exact w.dj j k c1 c2 a q1 q3 m1 m2
theorem Wd.fresh (w : Wd K C S G H0 H σ Γ) {p : Addr} (hp : H p = none) (h : Γ[i]? = some c) : p ∉ c.adr := fun m => by
  have hc : c ≠ .u := fun z => by subst z; simp [Ct.adr] at m
  obtain ⟨v, _, hv⟩ := w.get h hc
  obtain ⟨xs, e, _⟩ := hv.there m
  rw [hp] at e; cases e
theorem Wd.fresh0 (w : Wd K C S G H0 H σ Γ) {p : Addr} (hp : H p = none) : H0 p = none := by
  cases q : H0 p with
  | none => rfl
  | some o =>
    by_cases m : p ∈ S
    · obtain ⟨xs, e, _⟩ := w.sl p m
      rw [hp] at e; cases e
    · rw [w.fr p o q m] at hp; cases hp
theorem Wd.setN (w : Wd K C S G H0 H σ Γ) (i : Nat) {p : Addr} (e : Same H H') (hp : H p = none) (hx : CtAt K C H' (.ref p) (.l p ds)) :
    Wd K C S G H0 H' (σ.set i (some (.ref p))) (Γ.set i (.l p ds)) :=
  (w.mono e).setC i hx (fun _ a m => .inr (by rw [show a = p by simpa [Ct.adr] using m]; exact w.fresh0 hp)) fun j c' a _ hj m m' => by
    rw [show a = p by simpa [Ct.adr] using m] at m'
    exact w.fresh hp hj m'
theorem Wd.setO (w : Wd K C S G H0 H σ Γ) (i : Nat) {p : Addr} {u : HO} {ks : List (Addr × List V)} (e : Same H H') (hp : H p = none) (hx : CtAt K C H' (.ref p) (.o p u ks)) :
    Wd K C S G H0 H' (σ.set i (some (.ref p))) (Γ.set i (.o p u ks)) :=
  (w.mono e).setC i hx (fun _ a m => .inr (by rw [show a = p by simpa [Ct.adr] using m]; exact w.fresh0 hp)) fun j c' a _ hj m m' => by
    rw [show a = p by simpa [Ct.adr] using m] at m'
    exact w.fresh hp hj m'
theorem Wd.chgG {c0 c1 : Ct} (w : Wd K C S G H0 H σ Γ) {p : Addr} {u : HO} (hi : Γ[i]? = some c0) (h0 : c0.adr = [p]) (o0 : c0.own = true) (h1 : c1.adr = [p]) (o1 : c1.own = true) (hu : Wr u) (hv : ∀ v, CtAt K C H v c0 → CtAt K C (upd H p u) v c1) : Wd K C S G H0 (upd H p u) σ (Γ.set i c1) := by
  have nu : c0 ≠ .u := fun z => by rw [z] at o0; cases o0
  have nu1 : c1 ≠ .u := fun z => by rw [z] at o1; cases o1
  obtain ⟨v, e1, a1⟩ := w.get hi nu
  obtain ⟨ou, e2, wu⟩ := a1.there (a := p) (by rw [h0]; simp)
  have f : Fr [p] H (upd H p u) := Fr.upd
  have l := LT.oneW e2 wu
  have hw := w.wr i _ hi o0 p (by rw [h0]; simp)
  refine ⟨fun a o h n => ?_, fun a m => ?_, by rw [List.length_set, w.len], fun j c' hj => ?_, fun j c' hj n => ?_, fun j k c1' c2 a h1' h2 m1 m2 => ?_, fun q m => Td.mono (.fr l f) _ _ (w.gh q m)⟩
  · refine f a o (w.fr a o h n) fun m => ?_
    have e : a = p := by simpa using m
    subst e
    rcases hw with hw | hw
    · exact n hw
    · rw [hw] at h; cases h
  · by_cases e : a = p
    · subst e; exact ⟨u, upd_same, hu⟩
    · obtain ⟨zs, h, z⟩ := w.sl a m
      exact ⟨zs, by rw [upd_ne e]; exact h, z⟩
  · rcases set_cases hj with ⟨q1, q2, hl⟩ | ⟨ne, hj'⟩
    · rw [q2, q1]
      exact .mk e1 (hv v a1)
    · refine (w.at_ j c' hj').map fun u => CtAt.fr l f fun a m z => ne ?_
      have e : a = p := by simpa using z
      rw [e] at m
      exact (w.dj j i c' _ p hj' hi m (by rw [h0]; simp)).elim id fun z => by rw [o0] at z; cases z.2
  · rcases set_cases hj with ⟨rfl, rfl, hl⟩ | ⟨ne, hj⟩
    · intro a m
      rw [show a = p by rw [h1] at m; simpa using m]
      exact hw
    · exact w.wr j c' hj n
  · have old : ∀ {q : Nat} {c3 : Ct}, (Γ.set i c1)[q]? = some c3 → a ∈ c3.adr → ∃ c4, Γ[q]? = some c4 ∧ a ∈ c4.adr ∧ c4.own = c3.own := fun {q c3} h m => by
      rcases set_cases h with ⟨rfl, rfl, hl⟩ | ⟨ne, h⟩
      · exact ⟨_, hi, by rw [h0, ← h1]; exact m, by rw [o0, o1]⟩
      · exact ⟨_, h, m, rfl⟩
    obtain ⟨c3, h3, m3, o3⟩ := old h1' m1
    obtain ⟨c4, h4, m4, o4⟩ := old h2 m2
    rw [← o3, ← o4]
    exact w.dj j k c3 c4 a h3 h4 m3 m4
theorem Wd.chg (w : Wd K C S G H0 H σ Γ) {p : Addr} {xs : List V} (hi : Γ[i]? = some (.l p ds)) (ha : TdAll K H xs es) : Wd K C S G H0 (upd H p (.lst xs)) σ (Γ.set i (.l p es)) :=
  w.chgG hi rfl rfl rfl rfl True.intro fun v a => by
    obtain ⟨e1, ys, e2, _⟩ := a
    exact ⟨e1, xs, upd_same, TdAll.mono (.fr (LT.one e2) Fr.upd) _ _ ha⟩
theorem Wd.drawn (w : Wd K C S G H0 H σ Γ) {p q : Addr} (hi : Γ[i]? = some (.h p q)) (f : Fr [p, q] H H') (hs : CtAt K C H' (.ref p) (.h p q)) : Wd K C S G H0 H' σ Γ := by
  obtain ⟨v, e1, rfl, ne, s, k, cs, h1, h2, _⟩ := w.get hi
  have l : LT [p, q] H := fun a m => by
    have e : a = p ∨ a = q := by simpa using m
    rcases e with e | e
    · subst e; exact ⟨_, h1, True.intro⟩
    · subst e; exact ⟨_, h2, True.intro⟩
  have hw := w.wr i _ hi rfl
  refine ⟨fun a o h n => ?_, fun a m => ?_, w.len, fun j c' hj => ?_, w.wr, w.dj, fun q m => Td.mono (.fr l f) _ _ (w.gh q m)⟩
  · refine f a o (w.fr a o h n) fun m => ?_
    rcases hw a (by simpa [Ct.adr] using m) with z | z
    · exact n z
    · rw [z] at h; cases h
  · by_cases e : a ∈ [p, q]
    · obtain ⟨_, _, s', k', cs', g1, g2, _⟩ := hs
      have e : a = p ∨ a = q := by simpa using e
      rcases e with e | e
      · subst e; exact ⟨_, g1, True.intro⟩
      · subst e; exact ⟨_, g2, True.intro⟩
    · obtain ⟨zs, h, z⟩ := w.sl a m
      exact ⟨zs, f _ _ h e, z⟩
  · by_cases e : j = i
    · subst e
      rw [hi] at hj; cases hj
      exact ⟨_, e1, hs⟩
    · refine (w.at_ j c' hj).map fun u => CtAt.fr l f fun a m z => e ?_
      exact (w.dj j i c' _ a hj hi m (by simpa [Ct.adr] using z)).elim id fun z => by cases z.2
end
def EvC (K : PySem.W.Frag) (C : Addr) (te : TE) (σ : L2.St) (H : Hp) (c : Ct) : Prop := ∀ H1, Same H H1 → ∀ Q : VK, (∀ v H2, Same H1 H2 → CtAt K C H2 v c → Q v H2) → te σ H1 Q
def EvN (K : PySem.W.Frag) (C : Addr) (te : TE) (σ : L2.St) (H : Hp) (ds : List PyData) : Prop := ∀ H1, Same H H1 → ∀ Q : VK, (∀ p H2, H1 p = none → Same H1 H2 → CtAt K C H2 (.ref p) (.l p ds) → Q (.ref p) H2) → te σ H1 Q
def EvT (tt : TT) (σ : L2.St) (H : Hp) (b : Bool) : Prop := ∀ H1, Same H H1 → ∀ Q : Bool → Hp → Prop, (∀ H2, Same H1 H2 → Q b H2) → tt σ H1 Q
inductive Ag where
  | c (c : Ct)
  | n (ds : List PyData)
def AgAt (K : PySem.W.Frag) (C : Addr) (H : Hp) (v : V) : Ag → Prop
  | .c c => CtAt K C H v c
  | .n ds => ∃ p xs, v = .ref p ∧ H p = some (.lst xs) ∧ TdAll K H xs ds
theorem AgAt.mono (e : Same H H') : ∀ {a : Ag}, AgAt K C H v a → AgAt K C H' v a
  | .c _, h => CtAt.mono e h
  | .n ds, ⟨p, xs, a, b, c⟩ => ⟨p, xs, a, e _ _ b, TdAll.mono (.of e) ds xs c⟩
def Args (K : PySem.W.Frag) (C : Addr) (H : Hp) : List V → List Ag → Prop
  | [], [] => True
  | v :: vs, a :: as => AgAt K C H v a ∧ Args K C H vs as
  | _, _ => False
theorem Args.mono (e : Same H H') : ∀ {vs : List V} {as : List Ag}, Args K C H vs as → Args K C H' vs as
  | [], [], _ => True.intro
  | _ :: _, _ :: _, ⟨a, b⟩ => ⟨a.mono e, Args.mono e b⟩
  | [], _ :: _, h => h.elim
  | _ :: _, [], h => h.elim
theorem Args.length : ∀ {vs : List V} {as : List Ag}, Args K C H vs as → vs.length = as.length
  | [], [], _ => rfl
  | _ :: _, _ :: _, ⟨_, b⟩ => congrArg (· + 1) (Args.length b)
  | [], _ :: _, h => h.elim
  | _ :: _, [], h => h.elim
def EvA (K : PySem.W.Frag) (C : Addr) (ta : TA) (σ : L2.St) (H : Hp) (as : List Ag) : Prop := ∀ H1, Same H H1 → ∀ Q : List V → Hp → Prop, (∀ vs H2, Same H1 H2 → Args K C H2 vs as → Q vs H2) → ta σ H1 Q
def EvO (to : TO) (σ : L2.St) (H : Hp) (o : Option Int) : Prop := ∀ H1, Same H H1 → ∀ Q : Option Int → Hp → Prop, (∀ H2, Same H1 H2 → Q o H2) → to σ H1 Q
section
variable {G : List (V × PyData)} {S : List Addr} {H0 : Hp} {σ : L2.St} {Γ : List Ct} {i : Nat} {c : Ct} {te ta tb tc : TE} {t u : TT}
theorem same_new {p : Addr} {o : HO} (h : H p = none) : Same H (upd H p o) := fun b x e => by
  rw [upd_ne (ne_of_none e h)]
  exact e
theorem EvC.mono (e : Same H H') (h : EvC K C te σ H c) : EvC K C te σ H' c := fun H1 e1 => h H1 (e.trans e1)
theorem EvN.mono (e : Same H H') (h : EvN K C te σ H ds) : EvN K C te σ H' ds := fun H1 e1 => h H1 (e.trans e1)
theorem EvT.mono {b : Bool} (e : Same H H') (h : EvT t σ H b) : EvT t σ H' b := fun H1 e1 => h H1 (e.trans e1)
theorem ev_var (w : Wd K C S G H0 H σ Γ) (h : Γ[i]? = some c) (hc : c ≠ .u := by intro z; cases z) : EvC K C (tVar i) σ H c := fun H1 e1 Q q => by
  obtain ⟨v, e, a⟩ := w.get h hc
  exact ⟨v, e, q v H1 (Same.refl H1) (a.mono e1)⟩
theorem ev_int {k : Int} : EvC K C (tC (.int k)) σ H (.d (.int k)) := fun H1 _ Q q => q _ H1 (Same.refl H1) (.int k)
theorem ev_bl {k : Bool} : EvC K C (tC (.bl k)) σ H (.d (.bool k)) := fun H1 _ Q q => q _ H1 (Same.refl H1) (.bl k)
theorem ev_d {d e : PyData} (h : EvC K C te σ H (.d d)) (q : d = e) : EvC K C te σ H (.d e) := q ▸ h
theorem et_cast {b b' : Bool} (h : EvT t σ H b) (e : b = b') : EvT t σ H b' := e ▸ h
section
variable {X : Cx}
theorem laidF {pins : List (Addr × Obj)} {σ : L2.St} {H : Hp} {s : Shared} {xs : List V} {its : List Value} (I : Inv X pins σ H s) (r : Vals xs its) (z : xs.length ≤ sizeLine) :
    Inv X pins σ (upd H s.heap.objs.size (.frz { cls := .type "tuple", data := .seq its.toArray } (.tup xs))) { s with heap := s.heap.push { cls := .type "tuple", data := .seq its.toArray } } :=
  I.laid (t' := s.toks) (fun b u e => Heap.get?_push_of_some _ e) (Nat.le_refl _) ⟨Heap.get?_push_size _ rfl, z, its, r, ⟨_, Heap.get?_push_size _ rfl, rfl, _, rfl⟩⟩
def tTupF (t : TA) : TE := fun σ H Q => t σ H fun xs H1 => xs.length ≤ sizeLine ∧ ∀ p o, H1 p = none → o.dict = none → Q (.ref p) (upd H1 p (.frz o (.tup xs)))
theorem pe_tupF {es : List Expr} {t : TA} {x1 pos} (h : PA X es t) : PE X (.Tuple es x1 pos) (tTupF t) := by
  refine ⟨fun pins s σ H Q I hq => ?_⟩
  refine wpAny_Tuple_spliced (thn (h.run pos pins s σ H _ I hq) fun us s1 ⟨xs, H1, I1, r, z, q⟩ => ⟨by rw [← r.length]; exact z, ?_⟩)
  exact ⟨.ref s1.heap.objs.size, _, laidF I1 r z, rfl, q _ _ (I1.hok.fresh (Nat.le_refl _)) rfl⟩
def rTupleOf (K : PySem.W.Frag) : List V → Hp → VK → Prop := fun xs H Q => ∃ p ys, xs = [.ref p] ∧ ((SqL K H p ys ∧ ∀ l o, H l = none → o.dict = none → Q (.ref l) (upd H l (.frz o (.tup ys)))) ∨ (SqT K H p ys ∧ Q (.ref p) H))
theorem call_tuple_of' : CallR X (.type "tuple") (rTupleOf X.K) := fun pins s σ H xs us Q I r ⟨p, ys, ex, h⟩ => by
  subst ex
  obtain ⟨u, rfl, ru⟩ := vals1 r
  obtain rfl : u = .ref p := ru
  refine h.elim (fun ⟨lst, q⟩ => ?_) fun ⟨tup, q⟩ => ?_
  · obtain ⟨its, rv, here, few⟩ := I.list lst
    exact call_tuple_list here.isList (fun h1 k => have J := I.kept (t' := s.toks) k; ⟨.ref _, _, laidF J rv few, rfl, q _ _ (J.hok.fresh (Nat.le_refl _)) rfl⟩) (by have := rv.length; rw [List.size_toArray]; omega)
  · obtain ⟨its, _, here, _⟩ := I.tuple tup
    exact call_tuple_same here ⟨.ref p, H, I, rfl, q⟩
def rCatF (K : PySem.W.Frag) : R2 := fun x y H Q => ∃ a b xs ys, x = .ref a ∧ y = .ref b ∧ SqT K H a xs ∧ SqT K H b ys ∧ xs.length + ys.length ≤ sizeLine ∧
  (xs = [] → Q (.ref b) H) ∧ (xs ≠ [] → ys = [] → Q (.ref a) H) ∧ (xs ≠ [] → ys ≠ [] → ∀ p o, H p = none → o.dict = none → Q (.ref p) (upd H p (.frz o (.tup (xs ++ ys)))))
theorem op_catF : OpR X (binaryOp .Add) (rCatF X.K) := by
  intro pins s σ H x y v u Q I rx ry h
  obtain ⟨a, b, xs, ys, rfl, rfl, ha, hb, hz, q0, q1, q2⟩ := h
  cases rx
  cases ry
  obtain ⟨its, r1, p1, _⟩ := I.tuple ha
  obtain ⟨its2, r2, p2, _⟩ := I.tuple hb
  by_cases hx : xs = []
  · subst hx
    cases r1
    exact cat_tup0 p1 p2 ⟨.ref b, H, I, rfl, q0 rfl⟩
  · refine HT.cat_tup p1 p2 (fun z => hx (r1.nil_iff.mp z)) (fun z => ⟨.ref a, H, I, rfl, q1 hx (r2.nil_iff.mp z)⟩) (fun z => ?_) (by rw [← r1.length, ← r2.length]; exact hz)
    exact ⟨.ref s.heap.objs.size, _, laidF I (r1.append r2) (by rw [List.length_append]; exact hz), rfl, q2 hx (fun w => z (r2.nil_iff.mpr w)) _ _ (I.hok.fresh (Nat.le_refl _)) rfl⟩
def rSlF (K : PySem.W.Frag) : V → Option Int → Option Int → Hp → VK → Prop := fun x lo hi H Q => ∃ a xs, x = .ref a ∧ SqT K H a xs ∧
  (HT.sIx xs.length 0 lo = 0 ∧ HT.sIx xs.length xs.length hi = xs.length → Q (.ref a) H) ∧ (¬ (HT.sIx xs.length 0 lo = 0 ∧ HT.sIx xs.length xs.length hi = xs.length) → ∀ p o, H p = none → o.dict = none → Q (.ref p) (upd H p (.frz o (.tup (cutV xs lo hi)))))
theorem sl_tupF : SlR X (rSlF X.K) := by
  intro pins s σ H x v vl vu lo hi sl Q I rx hs pl pu h
  obtain ⟨a, xs, rfl, hx, q1, q2⟩ := h
  cases rx
  obtain ⟨its, r, ht, hz⟩ := I.tuple hx
  have hlen : its.toArray.size = xs.length := by rw [List.size_toArray]; exact r.length.symm
  refine ⟨"tuple", _, PyProof.Rows.slot_tuple_getitem.lookup, ht.typeIs, ?_⟩
  by_cases hw : HT.sIx xs.length 0 lo = 0 ∧ HT.sIx xs.length xs.length hi = xs.length
  · exact getItem_tuple_whole ht hs pl pu (by rw [hlen]; exact hw) ⟨.ref a, H, I, rfl, q1 hw⟩
  · refine HT.getItem_tuple_cut ht hs pl pu (by rw [hlen]; exact hw) ?_ (by rw [hlen]; exact hz)
    rw [hlen]
    exact ⟨.ref s.heap.objs.size, _, laidF I ((r.drop _).take _) (Nat.le_trans (cutV_length xs lo hi) hz), rfl, q2 hw _ _ (I.hok.fresh (Nat.le_refl _)) rfl⟩
end
theorem new_t {p : Addr} {xs : List V} {o : Obj} (hp : H p = none) (ho : o.dict = none) (d : TdAll K H xs ds) : CtAt K C (upd H p (.frz o (.tup xs))) (.ref p) (.d (.tuple ds)) := .tup ⟨o, upd_same, ho⟩ (TdAll.mono (.of (same_new hp)) _ _ d)
theorem ev_op2 {r : R2} {c1 c2 c3 : Ct} (ha : EvC K C ta σ H c1) (hb : EvC K C tb σ H c2)
    (hr : ∀ H1, Same H H1 → ∀ x y, CtAt K C H1 x c1 → CtAt K C H1 y c2 → ∀ Q : VK, (∀ v H2, Same H1 H2 → CtAt K C H2 v c3 → Q v H2) → r x y H1 Q) : EvC K C (tOp r ta tb) σ H c3 := fun H1 e1 Q q =>
  ha H1 e1 _ fun x H2 e2 a2 => hb H2 (e1.trans e2) _ fun y H3 e3 a3 => hr H3 ((e1.trans e2).trans e3) x y (a2.mono e3) a3 Q fun v H4 e4 a4 => q v H4 ((e2.trans e3).trans e4) a4
theorem ev_i0 {g : Int → Int → V} {k j : Int} (ha : EvC K C ta σ H (.d (.int k))) (hb : EvC K C tb σ H (.d (.int j))) (hd : ∀ H, Td K H (g k j) d) : EvC K C (tOp (rI0 g) ta tb) σ H (.d d) :=
  ev_op2 ha hb fun H1 _ x y a1 a2 Q q => ⟨k, j, a1.int_of, a2.int_of, q _ H1 (Same.refl H1) (hd H1)⟩
theorem ev_iC {P : Int → Int → Prop} {g : Int → Int → V} {k j : Int} (ha : EvC K C ta σ H (.d (.int k))) (hb : EvC K C tb σ H (.d (.int j))) (hP : P k j) (hd : ∀ H, Td K H (g k j) d) : EvC K C (tOp (rI P g) ta tb) σ H (.d d) :=
  ev_op2 ha hb fun H1 _ x y a1 a2 Q q => ⟨k, j, a1.int_of, a2.int_of, hP, q _ H1 (Same.refl H1) (hd H1)⟩
def rAddU (K : PySem.W.Frag) : R2 := fun x y H Q => rI0 (fun i j => .int (i + j)) x y H Q ∨ (rCatF K x y H Q ∨ rCat x y H Q)
theorem op_addU {X : Cx} : OpR X (binaryOp .Add) (rAddU X.K) := op_add.or (op_catF.or op_cat)
theorem ev_addI {k j : Int} (ha : EvC K C ta σ H (.d (.int k))) (hb : EvC K C tb σ H (.d (.int j))) : EvC K C (tOp (rAddU K) ta tb) σ H (.d (.int (k + j))) :=
  ev_op2 ha hb fun H1 _ x y a1 a2 Q q => .inl ⟨k, j, a1.int_of, a2.int_of, q _ H1 (Same.refl H1) (.int _)⟩
theorem ev_addT (ha : EvC K C ta σ H (.d (.tuple ds))) (hb : EvC K C tb σ H (.d (.tuple es))) (hl : ds.length + es.length ≤ 10000000) : EvC K C (tOp (rAddU K) ta tb) σ H (.d (.tuple (ds ++ es))) :=
  ev_op2 ha hb fun H1 _ x y a1 a2 Q q => .inr (.inl (by
    obtain ⟨a, xs, rfl, s1, d1⟩ := Td.tup_of a1
    obtain ⟨b, ys, rfl, s2, d2⟩ := Td.tup_of a2
    have l1 := d1.length
    have l2 := d2.length
    refine ⟨a, b, xs, ys, rfl, rfl, s1.sq, s2.sq, Nat.le_trans (by omega) (show 10000000 ≤ sizeLine by decide), fun e => ?_, fun _ e => ?_, fun _ _ p o hp ho => ?_⟩
    · subst e
      cases d1
      exact q _ H1 (Same.refl H1) a2
    · subst e
      cases d2
      refine q _ H1 (Same.refl H1) ?_
      rw [List.append_nil]
      exact a1
    · exact q _ _ (same_new hp) (new_t hp ho (d1.append d2))))
theorem ev_eqD {x1 x2 : PyData} (ha : EvC K C ta σ H (.d x1)) (hb : EvC K C tb σ H (.d x2)) (h1 : SeqAt.shaped x1 = true) (h2 : SeqAt.shaped x2 = true) : EvC K C (tOp (rEqD K) ta tb) σ H (.d (.bool (PyData.eqv x1 x2))) :=
  ev_op2 ha hb fun H1 _ x y a1 a2 Q q => ⟨x1, x2, Td.dp _ _ a1, Td.dp _ _ a2, h1, h2, q _ H1 (Same.refl H1) (.bl _)⟩
theorem ev_neD {x1 x2 : PyData} (ha : EvC K C ta σ H (.d x1)) (hb : EvC K C tb σ H (.d x2)) (h1 : SeqAt.shaped x1 = true) (h2 : SeqAt.shaped x2 = true) : EvC K C (tOp (rNeD K) ta tb) σ H (.d (.bool (!PyData.eqv x1 x2))) :=
  ev_op2 ha hb fun H1 _ x y a1 a2 Q q => ⟨x1, x2, Td.dp _ _ a1, Td.dp _ _ a2, h1, h2, q _ H1 (Same.refl H1) (.bl _)⟩
theorem shaped_int (k : Int) : SeqAt.shaped (.int k) = true := by
  show ((PyData.int k).canLay0 && decide ((PyData.int k).depth ≤ 64)) = true
  simp [PyData.canLay0, PyData.depth]
theorem lay_iL : ∀ l : List Int, PyData.canLayAll0 (iL l) = true
  | [] => by simp [iL, PyData.canLayAll0]
  | k :: l => by
    have := lay_iL l
    simp only [iL] at this
    simp [iL, PyData.canLayAll0, PyData.canLay0, this]
theorem depth_iL : ∀ l : List Int, PyData.depthAll (iL l) ≤ 1
  | [] => by simp [iL, PyData.depthAll]
  | k :: l => by
    have := depth_iL l
    simp only [iL] at this
    simp only [iL, List.map_cons, PyData.depthAll, PyData.depth]
    omega
theorem shaped_row (l : List Int) : SeqAt.shaped (row l) = true := by
  show ((row l).canLay0 && decide ((row l).depth ≤ 64)) = true
  have h1 := depth_iL l
  rw [Bool.and_eq_true]
  refine ⟨?_, decide_eq_true ?_⟩
  · simp only [row, PyData.canLay0]; exact lay_iL l
  · simp only [row, PyData.depth]; omega
theorem eqv_iL : ∀ a b : List Int, PyData.eqvAll (iL a) (iL b) = decide (a = b)
  | [], [] => by simp [iL, PyData.eqvAll]
  | [], _ :: _ => by simp [iL, PyData.eqvAll]
  | _ :: _, [] => by simp [iL, PyData.eqvAll]
  | x :: a, y :: b => by
    have ih := eqv_iL a b
    simp only [iL] at ih
    simp only [iL, List.map_cons, PyData.eqvAll, PyData.eqv, ih]
    by_cases e : x = y
    · subst e; simp
    · simp [e]
theorem eqv_row (a b : List Int) : PyData.eqv (row a) (row b) = decide (a = b) := by
  show PyData.eqv (.tuple (iL a)) (.tuple (iL b)) = _
  simp only [PyData.eqv]
  exact eqv_iL a b
theorem eqv_int (a b : Int) : PyData.eqv (.int a) (.int b) = decide (a = b) := by
  simp only [PyData.eqv]
  by_cases e : a = b
  · subst e; simp
  · simp [e]
theorem ev_eqI {k j : Int} (ha : EvC K C ta σ H (.d (.int k))) (hb : EvC K C tb σ H (.d (.int j))) : EvC K C (tOp (rEqD K) ta tb) σ H (.d (.bool (decide (k = j)))) :=
  eqv_int k j ▸ ev_eqD ha hb (shaped_int _) (shaped_int _)
theorem ev_neI {k j : Int} (ha : EvC K C ta σ H (.d (.int k))) (hb : EvC K C tb σ H (.d (.int j))) : EvC K C (tOp (rNeD K) ta tb) σ H (.d (.bool (!decide (k = j)))) :=
  eqv_int k j ▸ ev_neD ha hb (shaped_int _) (shaped_int _)
theorem ev_eqR {k j : List Int} (ha : EvC K C ta σ H (.d (row k))) (hb : EvC K C tb σ H (.d (row j))) : EvC K C (tOp (rEqD K) ta tb) σ H (.d (.bool (decide (k = j)))) :=
  eqv_row k j ▸ ev_eqD ha hb (shaped_row _) (shaped_row _)
theorem ev_neR {k j : List Int} (ha : EvC K C ta σ H (.d (row k))) (hb : EvC K C tb σ H (.d (row j))) : EvC K C (tOp (rNeD K) ta tb) σ H (.d (.bool (!decide (k = j)))) :=
  eqv_row k j ▸ ev_neD ha hb (shaped_row _) (shaped_row _)
theorem et_test {b : Bool} (h : EvC K C te σ H (.d (.bool b))) : EvT (tTest te) σ H b := fun H1 e1 Q q => h H1 e1 _ fun v H2 e2 a => ⟨b, a.bl_of, q H2 e2⟩
theorem et_and : ∀ {a b : Bool}, EvT t σ H a → (a = true → EvT u σ H b) → EvT (tAnd t u) σ H (a && b)
  | false, _, h, _ => fun H1 e _ q => h H1 e _ q
  | true, _, h, k => fun H1 e _ q => h H1 e _ fun H2 e2 => k rfl H2 (e.trans e2) _ fun H3 e3 => q H3 (e2.trans e3)
theorem et_or : ∀ {a b : Bool}, EvT t σ H a → (a = false → EvT u σ H b) → EvT (tOr t u) σ H (a || b)
  | true, _, h, _ => fun H1 e _ q => h H1 e _ q
  | false, _, h, k => fun H1 e _ q => h H1 e _ fun H2 e2 => k rfl H2 (e.trans e2) _ fun H3 e3 => q H3 (e2.trans e3)
theorem et_not {a : Bool} (h1 : EvT t σ H a) : EvT (tNot t) σ H (!a) := fun H1 e _ q => h1 H1 e _ fun H2 e2 => q H2 e2
theorem ev_orV {a b : Bool} (h1 : EvC K C ta σ H (.d (.bool a))) (h2 : a = false → EvC K C tb σ H (.d (.bool b))) : EvC K C (tOrV ta tb) σ H (.d (.bool (a || b))) := fun H1 e Q q => h1 H1 e _ fun v H2 e2 z => ⟨a, z.bl_of, by
  cases a with
  | true => exact q _ H2 e2 (.bl true)
  | false => exact h2 rfl H2 (e.trans e2) Q fun v H3 e3 => q v H3 (e2.trans e3)⟩
theorem ev_chain {g g' : Int → Int → Bool} {k j l : Int} (ha : EvC K C ta σ H (.d (.int k))) (hb : EvC K C tb σ H (.d (.int j))) (hc : EvC K C tc σ H (.d (.int l))) :
    EvC K C (tChain (rI0 fun i j => .bl (g i j)) (rI0 fun i j => .bl (g' i j)) ta tb tc) σ H (.d (.bool (g k j && g' j l))) := fun H1 e1 Q q =>
  ha H1 e1 _ fun x H2 e2 a2 => hb H2 (e1.trans e2) _ fun y H3 e3 a3 => ⟨k, j, a2.int_of, a3.int_of, g k j, rfl, by
    cases h : g k j with
    | true =>
      refine hc H3 ((e1.trans e2).trans e3) _ fun z H4 e4 a4 => ⟨j, l, a3.int_of, a4.int_of, ?_⟩
      have z := q (.bl (g' j l)) H4 ((e2.trans e3).trans e4)
      rw [h, Bool.true_and] at z
      exact z (.bl _)
    | false =>
      have z := q (.bl false) H3 (e2.trans e3)
      rw [h, Bool.false_and] at z
      exact z (.bl _)⟩
theorem ea_nil : EvA K C tNil σ H [] := fun H1 _ Q q => q [] H1 (Same.refl H1) True.intro
theorem ea_cons {tr : TA} {as : List Ag} (h : EvC K C te σ H c) (hr : EvA K C tr σ H as) : EvA K C (tCons te tr) σ H (.c c :: as) := fun H1 e1 Q q =>
  h H1 e1 _ fun v H2 e2 a => hr H2 (e1.trans e2) _ fun vs H3 e3 b => q (v :: vs) H3 (e2.trans e3) ⟨CtAt.mono e3 a, b⟩
theorem ea_consN {tr : TA} {as : List Ag} (h : EvN K C te σ H ds) (hr : EvA K C tr σ H as) : EvA K C (tCons te tr) σ H (.n ds :: as) := fun H1 e1 Q q =>
  h H1 e1 _ fun p H2 _ e2 a => hr H2 (e1.trans e2) _ fun vs H3 e3 b => q (.ref p :: vs) H3 (e2.trans e3) ⟨by
    obtain ⟨_, xs, h1, h2⟩ := CtAt.mono e3 a
    exact ⟨p, xs, rfl, h1, h2⟩, b⟩
theorem ea_consL {tr : TA} {as : List Ag} {p : Addr} (h : EvC K C te σ H (.l p ds)) (hr : EvA K C tr σ H as) : EvA K C (tCons te tr) σ H (.n ds :: as) := fun H1 e1 Q q =>
  h H1 e1 _ fun v H2 e2 a => hr H2 (e1.trans e2) _ fun vs H3 e3 b => q (v :: vs) H3 (e2.trans e3) ⟨by
    obtain ⟨h0, xs, h1, h2⟩ := CtAt.mono e3 a
    exact ⟨p, xs, h0, h1, h2⟩, b⟩
theorem ea_consS {tr : TA} {as : List Ag} {p : Addr} (h : EvC K C te σ H (.s p ds)) (hr : EvA K C tr σ H as) : EvA K C (tCons te tr) σ H (.n ds :: as) := fun H1 e1 Q q =>
  h H1 e1 _ fun v H2 e2 a => hr H2 (e1.trans e2) _ fun vs H3 e3 b => q (v :: vs) H3 (e2.trans e3) ⟨by
    obtain ⟨h0, xs, h1, h2⟩ := CtAt.mono e3 a
    exact ⟨p, xs, h0, h1, h2⟩, b⟩
def EvD (K : PySem.W.Frag) (C : Addr) (ta : TA) (σ : L2.St) (H : Hp) (ds : List PyData) : Prop := ∀ H1, Same H H1 → ∀ Q : List V → Hp → Prop, (∀ vs H2, Same H1 H2 → TdAll K H2 vs ds → Q vs H2) → ta σ H1 Q
theorem ed_nil : EvD K C tNil σ H [] := fun H1 _ Q q => q [] H1 (Same.refl H1) .nil
theorem ed_cons {tr : TA} (h : EvC K C te σ H (.d d)) (hr : EvD K C tr σ H ds) : EvD K C (tCons te tr) σ H (d :: ds) := fun H1 e1 Q q =>
  h H1 e1 _ fun v H2 e2 a => hr H2 (e1.trans e2) _ fun vs H3 e3 b => q (v :: vs) H3 (e2.trans e3) (.cons (Td.mono (.of e3) _ _ a) b)
theorem ev_tup {ts : TA} (h : EvD K C ts σ H ds) (hl : ds.length ≤ 10000000 := by simp) : EvC K C (tTupF ts) σ H (.d (.tuple ds)) := fun H1 e1 Q q =>
  h H1 e1 _ fun vs H2 e2 a => ⟨by rw [a.length]; exact Nat.le_trans hl (by decide), fun p o hp ho => q _ _ (e2.trans (same_new hp)) (new_t hp ho a)⟩
theorem en_lst {ts : TA} (h : EvD K C ts σ H ds) (hl : ds.length ≤ 10000000 := by simp) : EvN K C (tLst ts) σ H ds := fun H1 e1 Q q =>
  h H1 e1 _ fun vs H2 e2 a => ⟨by rw [a.length]; exact Nat.le_trans hl (by decide), fun p hp => q p _ (by
    cases z : H1 p with
    | none => rfl
    | some o => rw [e2 p o z] at hp; cases hp) (e2.trans (same_new hp)) ⟨rfl, vs, upd_same, TdAll.mono (.of (same_new hp)) _ _ a⟩⟩
theorem ev_cb {r : List V → Hp → VK → Prop} {ts : TA} {as : List Ag} (h : EvA K C ts σ H as) (hr : ∀ H1, Same H H1 → ∀ vs, Args K C H1 vs as → ∀ Q : VK, (∀ v H2, Same H1 H2 → CtAt K C H2 v c → Q v H2) → r vs H1 Q) : EvC K C (tCB r ts) σ H c := fun H1 e1 Q q =>
  h H1 e1 _ fun vs H2 e2 a => hr H2 (e1.trans e2) vs a Q fun v H3 e3 => q v H3 (e2.trans e3)
theorem Args.one {vs : List V} {a : Ag} (h : Args K C H vs [a]) : ∃ v, vs = [v] ∧ AgAt K C H v a := by
  match vs, h with
  | [v], ⟨h, _⟩ => exact ⟨v, rfl, h⟩
theorem Args.two {vs : List V} {a b : Ag} (h : Args K C H vs [a, b]) : ∃ v w, vs = [v, w] ∧ AgAt K C H v a ∧ AgAt K C H w b := by
  match vs, h with
  | [v, w], ⟨h, g, _⟩ => exact ⟨v, w, rfl, h, g⟩
theorem Args.three {vs : List V} {a b c : Ag} (h : Args K C H vs [a, b, c]) : ∃ v w x, vs = [v, w, x] ∧ AgAt K C H v a ∧ AgAt K C H w b ∧ AgAt K C H x c := by
  match vs, h with
  | [v, w, x], ⟨h, g, f, _⟩ => exact ⟨v, w, x, rfl, h, g, f⟩
def rLen (K : PySem.W.Frag) : List V → Hp → VK → Prop := fun xs H Q => ∃ x n, xs = [x] ∧ LenV K x H n ∧ Q (.int n) H
theorem call_len1 {X : Cx} : CallR X (.builtin "len") (rLen X.K) := call_len
theorem ev_lenT (h : EvC K C te σ H (.d (.tuple ds))) : EvC K C (tCB (rLen K) (tCons te tNil)) σ H (.d (.int ds.length)) := ev_cb (ea_cons h ea_nil) fun H1 _ vs a Q q => by
  obtain ⟨v, rfl, a1⟩ := a.one
  obtain ⟨p, xs, rfl, s, d⟩ := Td.tup_of a1
  exact ⟨_, ds.length, rfl, .inr ⟨xs, s.sq, d.length.symm⟩, q _ H1 (Same.refl H1) (.int _)⟩
theorem ev_lenL {p : Addr} (h : EvC K C te σ H (.l p ds)) : EvC K C (tCB (rLen K) (tCons te tNil)) σ H (.d (.int ds.length)) := ev_cb (ea_consL h ea_nil) fun H1 _ vs a Q q => by
  obtain ⟨v, rfl, p, xs, rfl, s, d⟩ := a.one
  exact ⟨_, ds.length, rfl, .inl ⟨xs, SqL.of s, d.length.symm⟩, q _ H1 (Same.refl H1) (.int _)⟩
def rMax2 : List V → Hp → VK → Prop := fun xs H Q => ∃ i j, xs = [.int i, .int j] ∧ Q (.int (if j > i then j else i)) H
def rMin2 : List V → Hp → VK → Prop := fun xs H Q => ∃ i j, xs = [.int i, .int j] ∧ Q (.int (if j < i then j else i)) H
theorem call_max2' {X : Cx} (hc : X.calm = true) : CallR X (.builtin "max") rMax2 := call_max2 hc
theorem call_min2' {X : Cx} (hc : X.calm = true) : CallR X (.builtin "min") rMin2 := call_min2 hc
theorem ev_max2 {k j : Int} (ha : EvC K C ta σ H (.d (.int k))) (hb : EvC K C tb σ H (.d (.int j))) : EvC K C (tCB rMax2 (tCons ta (tCons tb tNil))) σ H (.d (.int (max k j))) := ev_cb (ea_cons ha (ea_cons hb ea_nil)) fun H1 _ vs a Q q => by
  obtain ⟨v, w, rfl, a, b⟩ := a.two
  rw [a.int_of, b.int_of]
  refine ⟨k, j, rfl, ?_⟩
  have e : (if j > k then j else k) = max k j := by split <;> omega
  rw [e]
  exact q _ H1 (Same.refl H1) (.int _)
theorem ev_min2 {k j : Int} (ha : EvC K C ta σ H (.d (.int k))) (hb : EvC K C tb σ H (.d (.int j))) : EvC K C (tCB rMin2 (tCons ta (tCons tb tNil))) σ H (.d (.int (min k j))) := ev_cb (ea_cons ha (ea_cons hb ea_nil)) fun H1 _ vs a Q q => by
  obtain ⟨v, w, rfl, a, b⟩ := a.two
  rw [a.int_of, b.int_of]
  refine ⟨k, j, rfl, ?_⟩
  have e : (if j < k then j else k) = min k j := by split <;> omega
  rw [e]
  exact q _ H1 (Same.refl H1) (.int _)
def rInt1 : List V → Hp → VK → Prop := fun xs H Q => (∃ i, xs = [.int i] ∧ Q (.int i) H) ∨ ∃ k, xs = [.bl k] ∧ Q (.int (if k then 1 else 0)) H
theorem call_int1' {X : Cx} : CallR X (.type "int") rInt1 := call_int1
theorem ev_int1 {k : Int} (ha : EvC K C ta σ H (.d (.int k))) : EvC K C (tCB rInt1 (tCons ta tNil)) σ H (.d (.int k)) := ev_cb (ea_cons ha ea_nil) fun H1 _ vs a Q q => by
  obtain ⟨v, rfl, a1⟩ := a.one
  rw [Td.int_of a1]
  exact .inl ⟨k, rfl, q _ H1 (Same.refl H1) (.int _)⟩
def rListOf (K : PySem.W.Frag) : List V → Hp → VK → Prop := fun xs H Q => ∃ p ys, xs = [.ref p] ∧ (SqL K H p ys ∨ SqT K H p ys) ∧ ∀ l, H l = none → Q (.ref l) (upd H l (.lst ys))
theorem call_list_of' {X : Cx} : CallR X (.type "list") (rListOf X.K) := call_list_of
theorem en_cb {r : List V → Hp → VK → Prop} {ts : TA} {as : List Ag} (h : EvA K C ts σ H as) (hr : ∀ H1, Same H H1 → ∀ vs, Args K C H1 vs as → ∀ Q : VK, (∀ p H2, H1 p = none → Same H1 H2 → CtAt K C H2 (.ref p) (.l p ds) → Q (.ref p) H2) → r vs H1 Q) : EvN K C (tCB r ts) σ H ds := fun H1 e1 Q q =>
  h H1 e1 _ fun vs H2 e2 a => hr H2 (e1.trans e2) vs a Q fun p H3 hp e3 => q p H3 (e2.free hp) (e2.trans e3)
theorem new_l {p : Addr} {xs : List V} (hp : H p = none) (d : TdAll K H xs ds) : CtAt K C (upd H p (.lst xs)) (.ref p) (.l p ds) := ⟨rfl, xs, upd_same, TdAll.mono (.of (same_new hp)) _ _ d⟩
theorem en_listZ {p : Addr} (h : EvC K C te σ H (.z p ds)) : EvN K C (tCB (rListOf K) (tCons te tNil)) σ H ds := en_cb (ea_cons h ea_nil) fun H1 _ vs a Q q => by
  obtain ⟨v, rfl, rfl, xs, s, d⟩ := a.one
  exact ⟨p, xs, rfl, .inl s.sq, fun l hl => q l _ hl (same_new hl) (new_l hl d)⟩
theorem ev_tupleN (h : EvN K C te σ H ds) : EvC K C (tCB (rTupleOf K) (tCons te tNil)) σ H (.d (.tuple ds)) := ev_cb (ea_consN h ea_nil) fun H1 _ vs a Q q => by
  obtain ⟨v, rfl, p, xs, rfl, s, d⟩ := a.one
  exact ⟨p, xs, rfl, .inl ⟨SqL.of s, fun l o hl ho => q _ _ (same_new hl) (new_t hl ho d)⟩⟩
theorem ev_tupleL {p : Addr} (h : EvC K C te σ H (.l p ds)) : EvC K C (tCB (rTupleOf K) (tCons te tNil)) σ H (.d (.tuple ds)) := ev_cb (ea_consL h ea_nil) fun H1 _ vs a Q q => by
  obtain ⟨v, rfl, p, xs, rfl, s, d⟩ := a.one
  exact ⟨p, xs, rfl, .inl ⟨SqL.of s, fun l o hl ho => q _ _ (same_new hl) (new_t hl ho d)⟩⟩
theorem TdAll.bls : ∀ {bs : List Bool} {vs : List V}, TdAll K H vs (bs.map .bool) → vs = bs.map V.bl
  | [], _, h => by cases h; rfl
  | b :: bs, _, h => by
    cases h with
    | cons a r => rw [a.bl_of, TdAll.bls r]; rfl
theorem ev_allN {bs : List Bool} (h : EvN K C te σ H (bs.map .bool)) : EvC K C (tCB (rAll K) (tCons te tNil)) σ H (.d (.bool (bs.all id))) := ev_cb (ea_consN h ea_nil) fun H1 _ vs a Q q => by
  obtain ⟨v, rfl, p, xs, rfl, s, d⟩ := a.one
  rw [d.bls] at s
  exact ⟨p, bs, rfl, SqL.of s, q _ H1 (Same.refl H1) (.bl _)⟩
theorem atI_td {xs : List V} {k : Int} (a : TdAll K H xs ds) (h : atI ds k = some d) : ∃ v, atI xs k = some v ∧ Td K H v d := by
  unfold atI at h ⊢
  rw [a.length]
  cases e : ixN ds.length k with
  | none => rw [e] at h; cases h
  | some j =>
    rw [e] at h
    exact a.get h
theorem ev_ixT {k : Int} (ha : EvC K C ta σ H (.d (.tuple ds))) (hb : EvC K C tb σ H (.d (.int k))) (h : atI ds k = some d) : EvC K C (tOp (rIx K) ta tb) σ H (.d d) :=
  ev_op2 ha hb fun H1 _ x y a1 a2 Q q => by
    obtain ⟨p, xs, rfl, s, a⟩ := Td.tup_of a1
    obtain ⟨v, e, t⟩ := atI_td a h
    exact .inr (.inl ⟨p, xs, k, v, rfl, a2.int_of, s.sq, e, q v H1 (Same.refl H1) t⟩)
theorem ev_ixL {p : Addr} {k : Int} (ha : EvC K C ta σ H (.l p ds)) (hb : EvC K C tb σ H (.d (.int k))) (h : atI ds k = some d) : EvC K C (tOp (rIx K) ta tb) σ H (.d d) :=
  ev_op2 ha hb fun H1 _ x y a1 a2 Q q => by
    obtain ⟨rfl, xs, s, a⟩ := a1
    obtain ⟨v, e, t⟩ := atI_td a h
    exact .inl ⟨p, xs, k, v, rfl, a2.int_of, SqL.of s, e, q v H1 (Same.refl H1) t⟩
theorem ev_ixS {p : Addr} {k : Int} (ha : EvC K C ta σ H (.s p ds)) (hb : EvC K C tb σ H (.d (.int k))) (h : atI ds k = some d) : EvC K C (tOp (rIx K) ta tb) σ H (.d d) :=
  ev_op2 ha hb fun H1 _ x y a1 a2 Q q => by
    obtain ⟨rfl, xs, s, a⟩ := a1
    obtain ⟨v, e, t⟩ := atI_td a h
    exact .inl ⟨p, xs, k, v, rfl, a2.int_of, SqL.of s, e, q v H1 (Same.refl H1) t⟩
theorem ev_ixN {k : Int} (ha : EvN K C ta σ H ds) (hb : EvC K C tb σ H (.d (.int k))) (h : atI ds k = some d) : EvC K C (tOp (rIx K) ta tb) σ H (.d d) := fun H1 e1 Q q =>
  ha H1 e1 _ fun p H2 _ e2 a2 => hb H2 (e1.trans e2) _ fun y H3 e3 a3 => by
    obtain ⟨_, xs, s, a⟩ := CtAt.mono e3 a2
    obtain ⟨v, e, t⟩ := atI_td a h
    exact .inl ⟨p, xs, k, v, rfl, a3.int_of, SqL.of s, e, q v H3 (e2.trans e3) t⟩
theorem eo_none : EvO tNoPart σ H none := fun H1 _ _ q => q H1 (Same.refl H1)
theorem eo_some {k : Int} (h : EvC K C te σ H (.d (.int k))) : EvO (tPart te) σ H (some k) := fun H1 e _ q => h H1 e _ fun v H2 e2 a => ⟨k, a.int_of, q H2 e2⟩
def cutD {α : Type} (xs : List α) (lo hi : Option Int) : List α := (xs.drop (HT.sIx xs.length 0 lo)).take (HT.sIx xs.length xs.length hi - HT.sIx xs.length 0 lo)
theorem cut_td {xs : List V} (a : TdAll K H xs ds) (lo hi : Option Int) : TdAll K H (cutV xs lo hi) (cutD ds lo hi) := by
  unfold cutV cutD
  rw [a.length]
  exact (a.drop _).take _
def rSlU (K : PySem.W.Frag) : V → Option Int → Option Int → Hp → VK → Prop := fun x lo hi H Q => rSlL K x lo hi H Q ∨ rSlF K x lo hi H Q
theorem sl_U {X : Cx} : SlR X (rSlU X.K) := sl_list.or sl_tupF
theorem ev_slT {tl th : TO} {lo hi : Option Int} (h : EvC K C te σ H (.d (.tuple ds))) (h1 : EvO tl σ H lo) (h2 : EvO th σ H hi) : EvC K C (tSl (rSlU K) te tl th) σ H (.d (.tuple (cutD ds lo hi))) := fun H1 e Q q =>
  h H1 e _ fun v H2 e2 a => h1 H2 (e.trans e2) _ fun H3 e3 => h2 H3 ((e.trans e2).trans e3) _ fun H4 e4 => .inr (by
    obtain ⟨p, xs, rfl, s, d⟩ := Td.tup_of (CtAt.mono (e3.trans e4) a)
    refine ⟨p, xs, rfl, s.sq, fun hw => ?_, fun _ l o hl ho => q _ _ (((e2.trans e3).trans e4).trans (same_new hl)) (new_t hl ho (cut_td d lo hi))⟩
    refine q _ _ ((e2.trans e3).trans e4) ?_
    have z : cutD ds lo hi = ds := by
      unfold cutD
      rw [← d.length, hw.1, hw.2, Nat.sub_zero, List.drop_zero, d.length]
      exact List.take_length
    rw [z]
    exact .tup s d)
theorem en_addL {p : Addr} (ha : EvC K C ta σ H (.l p ds)) (hb : EvN K C tb σ H es) (hl : ds.length + es.length ≤ 10000000) : EvN K C (tOp (rAddU K) ta tb) σ H (ds ++ es) := fun H1 e1 Q q =>
  ha H1 e1 _ fun v H2 e2 a2 => hb H2 (e1.trans e2) _ fun p' H3 _ e3 a3 => .inr (.inr (by
    obtain ⟨rfl, xs, s1, d1⟩ := CtAt.mono e3 a2
    obtain ⟨_, ys, s2, d2⟩ := a3
    have l1 := d1.length
    have l2 := d2.length
    exact ⟨p, p', xs, ys, rfl, rfl, s1, s2, Nat.le_trans (by omega) (show 10000000 ≤ sizeLine by decide), fun l hl => q l _ ((e2.trans e3).free hl) ((e2.trans e3).trans (same_new hl)) (new_l hl (d1.append d2))⟩))
end
def spC (K : PySem.W.Frag) (C : Addr) (A : List Ag → PyData → Prop) : Sp := fun vs H Q _ => ∃ as d, Args K C H vs as ∧ A as d ∧ ∀ v H', Same H H' → Td K H' v d → Q v H'
def spN (K : PySem.W.Frag) (C : Addr) (A : List Ag → List PyData → Prop) : Sp := fun vs H Q _ => ∃ as ds, Args K C H vs as ∧ A as ds ∧ ∀ p H', H p = none → Same H H' → CtAt K C H' (.ref p) (.l p ds) → Q (.ref p) H'
section
variable {G : List (V × PyData)} {S : List Addr} {H0 : Hp} {σ : L2.St} {Γ : List Ct} {i j : Nat} {c : Ct} {te ta tb tc tl : TE} {t u : TT}
theorem ev_call {A : List Ag → PyData → Prop} {as : List Ag} {E : XK} {ts : TA} (h : EvA K C ts σ H as) (hA : A as d) : EvC K C (tCall (spC K C A) [] E ts) σ H (.d d) := fun H1 e1 Q q =>
  h H1 e1 _ fun vs H2 e2 a => ⟨as, d, by rw [List.append_nil]; exact a, hA, fun v H3 e3 t => q v H3 (e2.trans e3) t⟩
theorem en_call {A : List Ag → List PyData → Prop} {as : List Ag} {E : XK} {ts : TA} (h : EvA K C ts σ H as) (hA : A as ds) : EvN K C (tCall (spN K C A) [] E ts) σ H ds := fun H1 e1 Q q =>
  h H1 e1 _ fun vs H2 e2 a => ⟨as, ds, by rw [List.append_nil]; exact a, hA, fun p H3 hp e3 t => q p H3 (e2.free hp) (e2.trans e3) t⟩
def ArgsC (K : PySem.W.Frag) (C : Addr) (H : Hp) : List V → List Ct → Prop
  | [], [] => True
  | v :: vs, c :: cs => CtAt K C H v c ∧ ArgsC K C H vs cs
  | _, _ => False
theorem ArgsC.get : ∀ {vs : List V} {cs : List Ct} {i : Nat} {c : Ct}, ArgsC K C H vs cs → cs[i]? = some c → ∃ v, vs[i]? = some v ∧ CtAt K C H v c
  | [], [], _, _, _, e => by simp at e
  | v :: vs, c :: cs, 0, _, ⟨a, _⟩, e => by simp at e; subst e; exact ⟨v, rfl, a⟩
  | v :: vs, c :: cs, i + 1, _, ⟨_, b⟩, e => by
    obtain ⟨w, h1, h2⟩ := ArgsC.get b (show cs[i]? = _ by simpa using e)
    exact ⟨w, by simpa using h1, h2⟩
  | [], _ :: _, _, _, h, _ => h.elim
  | _ :: _, [], _, _, h, _ => h.elim
theorem ArgsC.length : ∀ {vs : List V} {cs : List Ct}, ArgsC K C H vs cs → vs.length = cs.length
  | [], [], _ => rfl
  | _ :: _, _ :: _, ⟨_, b⟩ => congrArg (· + 1) (ArgsC.length b)
  | [], _ :: _, h => h.elim
  | _ :: _, [], h => h.elim
theorem Wd.start0 {vs : List V} {cs : List Ct} {N : List Str} {S : List Addr} (h : ArgsC K C H vs cs) (hS : LT S H) (ho : ∀ c ∈ cs, c.own = true → ∀ a ∈ c.adr, a ∈ S)
    (hd : ∀ (i j : Nat) (c c' : Ct) (a : Addr), cs[i]? = some c → cs[j]? = some c' → a ∈ c.adr → a ∈ c'.adr → i = j ∨ (c.own = false ∧ c'.own = false)) (hl : vs.length ≤ N.length) :
    Wd K C S [] H H (L2.start N vs) (cs ++ List.replicate (N.length - vs.length) .u) := by
  have len := h.length
  have old : ∀ {i : Nat} {c : Ct}, (cs ++ List.replicate (N.length - vs.length) Ct.u)[i]? = some c → cs[i]? = some c ∨ c = .u := fun {i c} e => by
    by_cases hi : i < cs.length
    · rw [List.getElem?_append_left hi] at e; exact .inl e
    · rw [List.getElem?_append_right (by omega), List.getElem?_replicate] at e
      split at e
      · cases e; exact .inr rfl
      · cases e
  refine ⟨fun _ _ h _ => h, hS, ?_, fun i c e => ?_, fun i c e o a m => ?_, fun i j c c' a e e' m m' => ?_, fun p m => by simp at m⟩
  · unfold L2.start
    rw [List.length_append, List.length_append, List.length_map, List.length_replicate, List.length_replicate, len]
  · rcases old e with e | e
    · obtain ⟨v, h1, h2⟩ := h.get e
      refine .mk (v := v) ?_ h2
      unfold L2.start
      have hi := (List.getElem?_eq_some_iff.mp h1).1
      rw [List.getElem?_append_left (by simpa using hi), List.getElem?_map, h1]
      rfl
    · subst e; exact True.intro
  · rcases old e with e | e
    · exact .inl (ho c (List.mem_of_getElem? e) o a m)
    · subst e; cases o
  · rcases old e with e | e
    · rcases old e' with e' | e'
      · exact hd i j c c' a e e' m m'
      · subst e'; simp [Ct.adr] at m'
    · subst e; simp [Ct.adr] at m
theorem Wd.start {vs : List V} {cs : List Ct} {N : List Str} (h : ArgsC K C H vs cs) (ho : cs.all (fun c => !c.own) = true := by rfl) (hl : vs.length ≤ N.length := by decide) :
    Wd K C [] [] H H (L2.start N vs) (cs ++ List.replicate (N.length - vs.length) .u) := by
  have no : ∀ c ∈ cs, c.own = false := fun c m => by
    have := List.all_eq_true.mp ho c m
    simpa using this
  exact Wd.start0 h LT.nil (fun c m o => by rw [no c m] at o; cases o) (fun i j c c' a e e' _ _ => .inr ⟨no c (List.mem_of_getElem? e), no c' (List.mem_of_getElem? e')⟩) hl
theorem Wd.startH {v : V} {p q : Addr} {vs : List V} {cs : List Ct} {N : List Str} (h : ArgsC K C H (v :: vs) (.h p q :: cs)) (ho : cs.all (fun c => c.adr.isEmpty) = true := by rfl) (hl : (v :: vs).length ≤ N.length := by decide) :
    Wd K C [p, q] [] H H (L2.start N (v :: vs)) ((.h p q :: cs) ++ List.replicate (N.length - (v :: vs).length) .u) := by
  have no : ∀ c ∈ cs, c.adr = [] := fun c m => by
    have := List.all_eq_true.mp ho c m
    simpa using this
  obtain ⟨⟨_, _, s, k, cl, h1, h2, _⟩, _⟩ := id h
  refine Wd.start0 h (fun a m => ?_) (fun c m o a ma => ?_) (fun i j c c' a e e' m m' => ?_) hl
  · have e : a = p ∨ a = q := by simpa using m
    rcases e with e | e
    · subst e; exact ⟨_, h1, True.intro⟩
    · subst e; exact ⟨_, h2, True.intro⟩
  · rcases List.mem_cons.mp m with z | z
    · subst z; simpa [Ct.adr] using ma
    · rw [no c z] at ma; simp at ma
  · cases i with
    | zero =>
      cases j with
      | zero => exact .inl rfl
      | succ j => rw [no c' (List.mem_of_getElem? (show cs[j]? = some c' by simpa using e'))] at m'; simp at m'
    | succ i => rw [no c (List.mem_of_getElem? (show cs[i]? = some c by simpa using e))] at m; simp at m
variable {D : Ends} {tu tw : TS}
theorem s_seq (h : tu { D with nx := tw D } σ H) : tSeq tu tw D σ H := h
theorem s_next (h : D.nx σ H) : tNext D σ H := h
theorem s_asg (w : Wd K C S G H0 H σ Γ) (h : EvC K C te σ H c) (k : ∀ v σ1 H1, CtAt K C H1 v c → Wd K C S G H0 H1 σ1 (Γ.set i c) → D.nx σ1 H1) (ha : c.adr = [] := by rfl) : tAsg te (gName i) D σ H :=
  h H (Same.refl H) _ fun v H1 e a => k v _ H1 a ((w.mono e).set i a ha)
theorem s_asgN (w : Wd K C S G H0 H σ Γ) (h : EvN K C te σ H ds) (k : ∀ p σ1 H1, H0 p = none → Wd K C S G H0 H1 σ1 (Γ.set i (.l p ds)) → D.nx σ1 H1) : tAsg te (gName i) D σ H :=
  h H (Same.refl H) _ fun p H1 hp e a => k p _ H1 (w.fresh0 hp) (w.setN i e hp a)
theorem s_if (w : Wd K C S G H0 H σ Γ) {b : Bool} (h : EvT t σ H b) (h1 : b = true → ∀ H1, Wd K C S G H0 H1 σ Γ → tu D σ H1) (h2 : b = false → ∀ H1, Wd K C S G H0 H1 σ Γ → tw D σ H1) : tIfS t tu tw D σ H := h H (Same.refl H) _ fun H1 e => by
  cases b with
  | true => exact h1 rfl H1 (w.mono e)
  | false => exact h2 rfl H1 (w.mono e)
theorem s_ret (w : Wd K C S G H0 H σ Γ) (h : EvC K C te σ H c) (k : ∀ v H1, Wd K C S G H0 H1 σ Γ → CtAt K C H1 v c → D.rt v H1) : tRet te D σ H := h H (Same.refl H) _ fun v H1 e a => k v H1 (w.mono e) a
theorem s_retN (w : Wd K C S G H0 H σ Γ) (h : EvN K C te σ H ds) (k : ∀ p H1, H0 p = none → Wd K C S G H0 H1 σ Γ → CtAt K C H1 (.ref p) (.l p ds) → D.rt (.ref p) H1) : tRet te D σ H := h H (Same.refl H) _ fun p H1 hp e a => k p H1 (w.fresh0 hp) (w.mono e) a
theorem s_drop (w : Wd K C S G H0 H σ Γ) (h : EvC K C te σ H c) (k : ∀ H1, Wd K C S G H0 H1 σ Γ → D.nx σ H1) : tDrop te D σ H := h H (Same.refl H) _ fun v H1 e a => k H1 (w.mono e)
theorem s_app (w : Wd K C S G H0 H σ Γ) {p : Addr} (hi : Γ[i]? = some (.l p ds)) (h : EvC K C te σ H (.d d)) (hz : ds.length < 10000000) (k : ∀ H1, Wd K C S G H0 H1 σ (Γ.set i (.l p (ds ++ [d]))) → D.nx σ H1) :
    tDrop (tBM K "list" rAppend (tVar i) (tCons te tNil)) D σ H := by
  obtain ⟨v, e1, rfl, xs, e2, e3⟩ := w.get hi
  refine ⟨.ref p, e1, .inl ⟨rfl, xs, SqL.of e2⟩, ?_⟩
  refine h H (Same.refl H) _ fun y H1 e a => ?_
  refine ⟨p, xs, y, rfl, rfl, e _ _ e2, Nat.lt_of_lt_of_le (by rw [e3.length]; exact hz) (show 10000000 ≤ sizeLine by decide), ?_⟩
  exact k _ ((w.mono e).chg hi ((TdAll.mono (.of e) _ _ e3).append (.cons a .nil)))
theorem s_forR1 (w : Wd K C S G H0 H σ Γ) {n : Int} {ts : TA} (h : EvA K C ts σ H [.c (.d (.int n))]) (hn : n ≤ 10000000 ∧ -10000000 ≤ n) (Pv : Nat → L2.St → Hp → Prop) (h0 : ∀ H1, Wd K C S G H0 H1 σ Γ → Pv 0 σ H1)
    (hs : ∀ (k : Nat) σ' H', (k : Int) < n → Pv k σ' H' → tu { D with nx := Pv (k + 1), ct := Pv (k + 1), bk := D.nx } (σ'.set j (some (.int (k : Int)))) H') (hd : ∀ σ' H', Pv n.toNat σ' H' → D.nx σ' H') : tFor (iRng1 ts) (gName j) tu D σ H :=
  h H (Same.refl H) _ fun vs H1 e a => by
    obtain ⟨v, rfl, a1⟩ := a.one
    rw [Td.int_of a1]
    refine ⟨n, rfl, by omega, by omega, for_range (lo := 0) (n := n.toNat) Pv (h0 H1 (w.mono e)) (fun k σ' H' hk p => ?_) hd⟩
    show tu { D with nx := Pv (k + 1), ct := Pv (k + 1), bk := D.nx } (σ'.set j (some (.int ((0 : Int) + (k : Int))))) H'
    rw [Int.zero_add]
    exact hs k σ' H' (by omega) p
theorem s_forR2 (w : Wd K C S G H0 H σ Γ) {lo n : Int} {ts : TA} (h : EvA K C ts σ H [.c (.d (.int lo)), .c (.d (.int n))]) (hn : n ≤ 10000000 ∧ -10000000 ≤ n ∧ -10000000 ≤ lo ∧ lo ≤ 10000000) (Pv : Nat → L2.St → Hp → Prop) (h0 : ∀ H1, Wd K C S G H0 H1 σ Γ → Pv 0 σ H1)
    (hs : ∀ (k : Nat) σ' H', lo + (k : Int) < n → Pv k σ' H' → tu { D with nx := Pv (k + 1), ct := Pv (k + 1), bk := D.nx } (σ'.set j (some (.int (lo + (k : Int))))) H') (hd : ∀ σ' H', Pv (n - lo).toNat σ' H' → D.nx σ' H') : tFor (iRng2 ts) (gName j) tu D σ H :=
  h H (Same.refl H) _ fun vs H1 e a => by
    obtain ⟨v, v2, rfl, a, b⟩ := a.two
    rw [Td.int_of a, Td.int_of b]
    exact ⟨lo, n, rfl, ⟨by omega, by omega, by omega, by omega⟩, for_range (lo := lo) (n := (n - lo).toNat) Pv (h0 H1 (w.mono e)) (fun k σ' H' hk p => hs k σ' H' (by omega) p) hd⟩
theorem Wd.ghost (w : Wd K C S G H0 H σ Γ) (h : Td K H v d) : Wd K C S ((v, d) :: G) H0 H σ Γ := ⟨w.fr, w.sl, w.len, w.at_, w.wr, w.dj, fun p m => by
  rcases List.mem_cons.mp m with z | z
  · subst z; exact h
  · exact w.gh p z⟩
theorem Wd.unghost (w : Wd K C S ((v, d) :: G) H0 H σ Γ) : Wd K C S G H0 H σ Γ := ⟨w.fr, w.sl, w.len, w.at_, w.wr, w.dj, fun p m => w.gh p (List.mem_cons_of_mem _ m)⟩
theorem Wd.gh0 (w : Wd K C S ((v, d) :: G) H0 H σ Γ) : Td K H v d := w.gh _ List.mem_cons_self
def Turns (J : It) (g : TG) (tu : TS) (D : Ends) (σ : L2.St) (H : Hp) : Prop := ∃ W : Nat → Nat → L2.St → Hp → Prop, (∃ m, W 0 m σ H) ∧ ∀ i m σ H, W i m σ H →
  (J.stop i H ∧ D.nx σ H) ∨ (J.go i H ∧ ∃ N : L2.St → Hp → Prop, (∀ σ' H', N σ' H' → ∃ m', m' < m ∧ W (i + 1) m' σ' H') ∧ ∀ x H', J.yld i H x H' → g x σ H' fun σ2 H2 => tu { D with nx := N, ct := N, bk := D.nx } σ2 H2)
def Nth (K : PySem.W.Frag) (ds : List PyData) : Nat → Hp → V → Hp → Prop := fun i H v H' => H' = H ∧ ∃ d, ds[i]? = some d ∧ Td K H v d
theorem told_T {a : Addr} : Walk (Itt K a) ds.length (fun H => Td K H (.ref a) (.tuple ds)) (Nth K ds) := by
  have see : ∀ {H}, Td K H (.ref a) (.tuple ds) → ∃ xs, SqT K H a xs ∧ TdAll K H xs ds := fun t => by
    obtain ⟨_, xs, e, s, all⟩ := Td.tup_of t
    cases e
    exact ⟨xs, s.sq, all⟩
  refine ⟨fun i H lt t => ?_, fun H t => ?_, fun i H v H' _ t y => ?_⟩ <;> obtain ⟨xs, s, all⟩ := see t
  · exact ⟨xs, xs[i]'(by rw [all.length]; exact lt), s, List.getElem?_eq_getElem _⟩
  · exact ⟨xs, s, Nat.le_of_eq all.length⟩
  · exact ⟨y.1, all.get' (y.2 xs s)⟩
theorem told_L {a : Addr} : Walk (Itl K a) ds.length (fun H => ∃ xs, SqL K H a xs ∧ TdAll K H xs ds) (Nth K ds) :=
  ⟨fun i _ lt ⟨xs, s, all⟩ => ⟨xs, xs[i]'(by rw [all.length]; exact lt), s, List.getElem?_eq_getElem _⟩, fun _ ⟨xs, s, all⟩ => ⟨xs, s, Nat.le_of_eq all.length⟩, fun _ _ _ _ _ ⟨xs, s, all⟩ y => ⟨y.1, all.get' (y.2 xs s)⟩⟩
theorem turns_nth {J : It} {G : Hp → Prop} {g : TG} {D : Ends} (w : Walk J ds.length G (Nth K ds)) (Pv : Nat → L2.St → Hp → Prop) (h0 : Pv 0 σ H) (hw : ∀ k σ' H', Pv k σ' H' → G H')
    (hs : ∀ k d v σ' H', ds[k]? = some d → Td K H' v d → Pv k σ' H' → g v σ' H' fun σ2 H2 => tu { D with nx := Pv (k + 1), ct := Pv (k + 1), bk := D.nx } σ2 H2) (hd : ∀ σ' H', Pv ds.length σ' H' → D.nx σ' H') : Turns J g tu D σ H :=
  for_it w Pv h0 (fun k σ' H' _ p => hw k σ' H' p) (fun k v σ' H1 H' _ p ⟨e, d, at_, t⟩ => by subst e; exact hs k d v σ' _ at_ t p) hd
theorem walkL {a : Addr} {g : TG} {D : Ends} (Pv : Nat → L2.St → Hp → Prop) (h0 : Pv 0 σ H) (hw : ∀ k σ' H', Pv k σ' H' → ∃ xs, H' a = some (.lst xs) ∧ TdAll K H' xs ds)
    (hs : ∀ k d v σ' H', ds[k]? = some d → Td K H' v d → Pv k σ' H' → g v σ' H' fun σ2 H2 => tu { D with nx := Pv (k + 1), ct := Pv (k + 1), bk := D.nx } σ2 H2) (hd : ∀ σ' H', Pv ds.length σ' H' → D.nx σ' H') : Turns (Itl K a) g tu D σ H := turns_nth told_L Pv h0 (fun k σ' H' p => let ⟨xs, s, t⟩ := hw k σ' H' p; ⟨xs, SqL.of s, t⟩) hs hd
theorem s_forL {g : TG} {p : Addr} (w : Wd K C S G H0 H σ Γ) (h : EvC K C tl σ H (.l p ds)) (Pv : Nat → L2.St → Hp → Prop) (h0 : ∀ H1, Wd K C S G H0 H1 σ Γ → Pv 0 σ H1)
    (hw : ∀ k σ' H', Pv k σ' H' → ∃ xs, H' p = some (.lst xs) ∧ TdAll K H' xs ds)
    (hs : ∀ k d v σ' H', ds[k]? = some d → Td K H' v d → Pv k σ' H' → g v σ' H' fun σ2 H2 => tu { D with nx := Pv (k + 1), ct := Pv (k + 1), bk := D.nx } σ2 H2) (hd : ∀ σ' H', Pv ds.length σ' H' → D.nx σ' H') : tFor (iList K tl) g tu D σ H :=
  h H (Same.refl H) _ fun v H1 e a => by
    obtain ⟨rfl, xs, s, t⟩ := a
    exact ⟨p, rfl, ⟨xs, SqL.of s⟩, walkL Pv (h0 H1 (w.mono e)) hw hs hd⟩
theorem wipe1 (σ : L2.St) (j : Nat) (x : Option V) : wipe ((wipe σ [j]).set j x) [j] = wipe σ [j] := by
  simp [wipe, List.set_set]
theorem Wd.wiped (w : Wd K C S G H0 H σ Γ) (j : Nat) : Wd K C S G H0 H (wipe σ [j]) (Γ.set j .u) := by
  have w1 := w.drop j
  unfold wipe wipe
  refine ⟨w1.fr, w1.sl, by rw [List.length_set]; exact w1.len, fun i c hi => ?_, w1.wr, w1.dj, w1.gh⟩
  by_cases e : i = j
  · subst e
    rcases set_cases hi with ⟨_, rfl, _⟩ | ⟨ne, _⟩
    · exact True.intro
    · exact absurd rfl ne
  · rw [List.getElem?_set_ne (Ne.symm e)]
    exact w1.at_ i c hi
def Cw (K : PySem.W.Frag) (H : Hp) (Dl : Addr) (es : List PyData) (H' : Hp) : Prop := H Dl = none ∧ Same H H' ∧ ∃ acc, H' Dl = some (.lst acc) ∧ TdAll K H' acc es
theorem Cw.start {Dl : Addr} (h : H Dl = none) : Cw K H Dl [] (upd H Dl (.lst [])) := ⟨h, same_new h, [], upd_same, .nil⟩
theorem cw_turn {Dl : Addr} {σ2 : L2.St} {b : Bool} (p : Cw K H Dl es H') (hl : es.length < 10000000) (ht : EvT t σ2 H b) (he : b = true → EvC K C te σ2 H (.d d)) :
    t σ2 H' fun b' H3 => if b' = true then te σ2 H3 fun y H4 => ∃ acc, H4 Dl = some (.lst acc) ∧ acc.length < sizeLine ∧ Cw K H Dl (if b = true then es ++ [d] else es) (upd H4 Dl (.lst (acc ++ [y]))) else Cw K H Dl (if b = true then es ++ [d] else es) H3 := by
  obtain ⟨p1, p2, acc, p3, p4⟩ := p
  refine ht H' p2 _ fun H3 e3 => ?_
  cases b with
  | true =>
    show te σ2 H3 fun y H4 => ∃ acc, H4 Dl = some (.lst acc) ∧ acc.length < sizeLine ∧ Cw K H Dl (es ++ [d]) (upd H4 Dl (.lst (acc ++ [y])))
    refine he rfl H3 (p2.trans e3) _ fun y H4 e4 a4 => ?_
    have s4 := e3.trans e4
    have q := s4 _ _ p3
    refine ⟨acc, q, Nat.lt_of_lt_of_le (by rw [p4.length]; exact hl) (show 10000000 ≤ sizeLine by decide), p1, fun a o ha => ?_, acc ++ [y], upd_same, ?_⟩
    · rw [upd_ne (ne_of_none ha p1)]
      exact s4 _ _ (p2 _ _ ha)
    · exact TdAll.mono (.fr (LT.one q) Fr.upd) _ _ ((TdAll.mono (.of s4) _ _ p4).append (.cons a4 .nil))
  | false =>
    exact ⟨p1, p2.trans e3, acc, e3 _ _ p3, TdAll.mono (.of e3) _ _ p4⟩
def kept {α : Type} (f : α → Bool) (g : α → PyData) (l : List α) : List PyData := (l.filter f).map g
theorem kept_step {α : Type} {f : α → Bool} {g : α → PyData} {l : List α} {k : Nat} {x : α} (h : l[k]? = some x) : kept f g (l.take (k + 1)) = if f x = true then kept f g (l.take k) ++ [g x] else kept f g (l.take k) := by
  unfold kept
  rw [List.take_add_one, h]
  show List.map g (List.filter f (l.take k ++ [x])) = _
  rw [List.filter_append, List.map_append]
  cases e : f x with
  | true => simp [e]
  | false => simp [e]
theorem kept_len {α : Type} {f : α → Bool} {g : α → PyData} {l : List α} {k : Nat} : (kept f g (l.take k)).length ≤ l.length := by
  unfold kept
  rw [List.length_map]
  exact Nat.le_trans (List.length_filter_le _ _) (by rw [List.length_take]; exact Nat.min_le_right _ _)
theorem en_lcT {α : Type} {l : List α} {mk : α → PyData} (w : Wd K C S G H0 H σ Γ) (hl : EvC K C tl σ H (.d (.tuple (l.map mk)))) (f : α → Bool) (g : α → PyData) (hz : l.length < 10000000)
    (ht : ∀ x ∈ l, ∀ σ1 H1, Wd K C S G H0 H1 σ1 ((Γ.set j .u).set j (.d (mk x))) → EvT t σ1 H1 (f x)) (he : ∀ x ∈ l, ∀ σ1 H1, Wd K C S G H0 H1 σ1 ((Γ.set j .u).set j (.d (mk x))) → f x = true → EvC K C te σ1 H1 (.d (g x))) :
    EvN K C (tLc (iTup K tl) (gName j) t te [j]) σ H (kept f g l) := fun H1 e1 Q q => hl H1 e1 _ fun v H2 e2 a => by
  obtain ⟨p, xs, rfl, s, td⟩ := Td.tup_of a
  have len : xs.length = l.length := by rw [td.length, List.length_map]
  refine ⟨p, rfl, ⟨xs, s.sq⟩, fun Dl hD => lc_tup (xs := xs) (fun k H' => Cw K H2 Dl (kept f g (l.take k)) H') (by rw [List.take_zero]; exact Cw.start hD) (fun k H' _ c => ((Tx.of c.2.1).sqF s).sq) (fun k x H' hk c => ?_) (fun H' c => ?_)⟩
  · have hk' : k < l.length := by rw [← len]; exact (List.getElem?_eq_some_iff.mp hk).1
    have ek : l[k]? = some l[k] := List.getElem?_eq_getElem hk'
    obtain ⟨d, h1, h2⟩ := td.get' hk
    have ed : d = mk l[k] := by rw [List.getElem?_map, ek] at h1; exact (Option.some.inj h1).symm
    subst ed
    have w2 : Wd K C S G H0 H2 ((wipe σ [j]).set j (some x)) ((Γ.set j .u).set j (.d (mk l[k]))) := ((w.mono (e1.trans e2)).wiped j).set j h2
    have m : l[k] ∈ l := List.getElem_mem hk'
    show wipe ((wipe σ [j]).set j (some x)) [j] = wipe σ [j] ∧ _
    refine ⟨wipe1 σ j _, ?_⟩
    have z := cw_turn (C := C) (te := te) (d := g l[k]) c (Nat.lt_of_le_of_lt kept_len hz) (ht _ m _ _ w2) (he _ m _ _ w2)
    rw [← kept_step ek] at z
    exact z
  · rw [len, List.take_length] at c
    obtain ⟨c1, c2, acc, c3, c4⟩ := c
    exact q Dl H' (e2.free c1) (e2.trans c2) ⟨rfl, acc, c3, c4⟩
theorem en_lcS {α : Type} {l : List α} {mk : α → PyData} {p : Addr} (w : Wd K C S G H0 H σ Γ) (hl : EvC K C tl σ H (.s p (l.map mk))) (f : α → Bool) (g : α → PyData) (hz : l.length < 10000000)
    (ht : ∀ x ∈ l, ∀ σ1 H1, Wd K C S G H0 H1 σ1 ((Γ.set j .u).set j (.d (mk x))) → EvT t σ1 H1 (f x)) (he : ∀ x ∈ l, ∀ σ1 H1, Wd K C S G H0 H1 σ1 ((Γ.set j .u).set j (.d (mk x))) → f x = true → EvC K C te σ1 H1 (.d (g x))) :
    EvN K C (tLc (iList K tl) (gName j) t te [j]) σ H (kept f g l) := fun H1 e1 Q q => hl H1 e1 _ fun v H2 e2 a => by
  obtain ⟨rfl, xs, s, td⟩ := a
  have len : xs.length = l.length := by rw [td.length, List.length_map]
  refine ⟨p, rfl, ⟨xs, SqL.of s⟩, fun Dl hD => lc_list (xs := xs) (fun k H' => Cw K H2 Dl (kept f g (l.take k)) H') (by rw [List.take_zero]; exact Cw.start hD) (fun k H' _ c => SqL.of (c.2.1 _ _ s)) (fun k x H' hk c => ?_) (fun H' c => ?_)⟩
  · have hk' : k < l.length := by rw [← len]; exact (List.getElem?_eq_some_iff.mp hk).1
    have ek : l[k]? = some l[k] := List.getElem?_eq_getElem hk'
    obtain ⟨d, h1, h2⟩ := td.get' hk
    have ed : d = mk l[k] := by rw [List.getElem?_map, ek] at h1; exact (Option.some.inj h1).symm
    subst ed
    have w2 : Wd K C S G H0 H2 ((wipe σ [j]).set j (some x)) ((Γ.set j .u).set j (.d (mk l[k]))) := ((w.mono (e1.trans e2)).wiped j).set j h2
    have m : l[k] ∈ l := List.getElem_mem hk'
    show wipe ((wipe σ [j]).set j (some x)) [j] = wipe σ [j] ∧ _
    refine ⟨wipe1 σ j _, ?_⟩
    have z := cw_turn (C := C) (te := te) (d := g l[k]) c (Nat.lt_of_le_of_lt kept_len hz) (ht _ m _ _ w2) (he _ m _ _ w2)
    rw [← kept_step ek] at z
    exact z
  · rw [len, List.take_length] at c
    obtain ⟨c1, c2, acc, c3, c4⟩ := c
    exact q Dl H' (e2.free c1) (e2.trans c2) ⟨rfl, acc, c3, c4⟩
theorem ev_lend {p : Addr} (h : EvC K C te σ H (.l p ds)) : EvC K C te σ H (.s p ds) := h
theorem et_yes : EvT tYes σ H true := fun H1 _ Q q => q H1 (Same.refl H1)
end
end Pt
namespace Pt
open PySem PySem.Spec PyProof.Rows L2
def twoNew (o : Obj) (h : Heap) : Heap := (h.push o).push { cls := .type "enumerate", data := .fields #[.none, .bool false, .ref h.objs.size, rawInt 0, .none, .none] }
open AutoSeq1 (wpAny_loadPart') in
theorem enum_made {v : Value} {o : Obj} {Ok : Heap → Prop} (B : Begins v o Ok) : Meets (Builtin.«enumerate.__new__» ⟨[.type "enumerate", v], []⟩) (fun _ R s => Ok s.heap ∧ R (.ok (.ret (.ref (s.heap.objs.size + 1)))) { s with heap := twoNew o s.heap }) := by
  refine .of_wp fun prog w A R ⟨hp, gs, dr, tk, os⟩ ⟨ok, q⟩ => ?_
  have sub := sub_enumerate
  have more : (hp.push o).objs.size = hp.objs.size + 1 := Heap.size_push ..
  have iter : ∀ {A' : Around} {E Q : Value → Shared → Prop}, Q (.ref hp.objs.size) ⟨hp.push o, gs, dr, tk, os⟩ → wpAny (model prog w) A' (pyIter v) Q E ⟨hp, gs, dr, tk, os⟩ := B.iter prog w _ _ ⟨hp, gs, dr, tk, os⟩ _ ok
  have fin : ∀ {a : Addr}, a = (hp.push o).objs.size → R (.ok (.ret (.ref a))) ⟨twoNew o hp, gs, dr, tk, os⟩ := fun e => by rw [e, more]; exact q
  wp_walk using iter
  refine wpAny_stack_any fun st => wpAny_pure ?_
  split <;> first
    | (rename_i c _ _ _ _ _; cases (c == Value.type "enumerate") <;> (wp_walk using iter; exact ⟨_, rfl, fin rfl⟩))
    | (wp_walk using iter; exact ⟨_, rfl, fin rfl⟩)
theorem call_enumG {prog : Program} {w : World} {A : Around} {E Q : Value → Shared → Prop} {s : Shared} {v : Value} {o : Obj} {Ok : Heap → Prop} (B : Begins v o Ok) (ok : Ok s.heap)
    (q : ∀ h', (∀ b ob, s.heap.get? b = some ob → h'.get? b = some ob) → h'.get? s.heap.objs.size = some o → IsEnum h' (s.heap.objs.size + 1) s.heap.objs.size 0 .none → Q (.ref (s.heap.objs.size + 1)) { s with heap := h' }) : wpAny (model prog w) A (call (.type "enumerate") [v]) Q E s := by
  have at1 : (twoNew o s.heap).get? (s.heap.objs.size + 1) = some { cls := .type "enumerate", data := .fields #[.none, .bool false, .ref s.heap.objs.size, rawInt 0, .none, .none] } := by
    rw [← Heap.size_push s.heap o]
    exact Heap.get?_push_size _ rfl
  exact callType_new F.called_enumerate (by decide) (F.typeCall_enumerate_1 v) (F.newCall_enumerate_1 v) (fun z => F.args_object_init_2 z v) F.entry_enumerate_new (enum_made B)
    ⟨ok, ⟨_, at1, rfl⟩, q _ (fun b ob z => Heap.get?_push_of_some _ (Heap.get?_push_of_some _ z)) (Heap.get?_push_of_some _ (Heap.get?_push_size _ B.free)) at1⟩
def ItE (J : It) : It := ⟨J.go, fun i H v H' => ∃ T x, v = .ref T ∧ H T = none ∧ H' = upd H T (.tup [.int (i : Nat), x]) ∧ J.yld i H x H, J.stop⟩
structure DrawSrc (P : Program) (w : World) (K : PySem.W.Frag) (J : It) (it : Addr) (st : Nat → Heap → Prop) : Prop where
  obj : ∀ i h, st i h → ∃ o, h.get? it = some o ∧ ∀ v, o.data ≠ .cell v
  keep : ∀ i h h', st i h → (∀ o, h.get? it = some o → h'.get? it = some o) → st i h'
  draw : ∀ (X : Cx), X.prog = P → X.w = w → X.K = K → X.calm = true → ∀ (i : Nat) (pins : List (Addr × Obj)) (s : Shared) (σ : L2.St) (H : Hp), Inv X pins σ H s → st i s.heap → J.go i H → ∃ (fp : List Addr) (n : Nat) (Pv : Nat → Value → Prop) (Sv : Nat → Heap → Prop), Draws P w X.A.in1 it fp n Pv Sv ∧ (∀ b ∈ fp, ∃ o, s.heap.get? b = some o ∧ o.cls ≠ .type "enumerate") ∧ i < n ∧ Sv i s.heap ∧ (∀ h, Sv (i + 1) h → st (i + 1) h) ∧ ∀ u, Pv i u → ∃ x, RelV x u ∧ J.yld i H x H
  over : ∀ (X : Cx), X.prog = P → X.w = w → X.K = K → X.calm = true → ∀ (i : Nat) (pins : List (Addr × Obj)) (s : Shared) (σ : L2.St) (H : Hp), Inv X pins σ H s → st i s.heap → J.stop i H → ∃ (fp : List Addr) (n : Nat) (Pv : Nat → Value → Prop) (Sv : Nat → Heap → Prop), Draws P w X.A.in1 it fp n Pv Sv ∧ Sv n s.heap
section
variable {P : Program} {w : World} {K : PySem.W.Frag} {J : It} {it : Addr} {st : Nat → Heap → Prop}
theorem turn_enumG {elts : List Expr} {kk : Nat} {tpos : Pos} (S : DrawSrc P w K J it st) (e : Addr) : Turn P w K (.Tuple elts kk tpos) (ItE J) [e, it] e (fun i h => e ≠ it ∧ st i h ∧ ∃ old, IsEnum h e it ((i : Nat) : Int) old) where
  mem := List.mem_cons_self
  obj := fun i h z b m => by
    obtain ⟨_, z, _, en⟩ := z
    simp only [List.mem_cons, List.not_mem_nil, or_false] at m
    rcases m with rfl | rfl
    · exact ⟨_, en, fun v => nofun⟩
    · exact S.obj i h z
  keep := fun i h h' z k => ⟨z.1, S.keep i h h' z.2.1 (k it (by simp)), z.2.2.choose, k e (by simp) _ z.2.2.choose_spec⟩
  item := by
    rintro X rfl rfl rfl hc i pins s σ H E I free ⟨ne, z, old, en⟩ go
    obtain ⟨fp, n, Pv, Sv, D, other, lt, z1, nxt, val⟩ := S.draw X rfl rfl rfl hc i pins s σ H I z go
    have apart : e ∉ fp := fun m => by
      obtain ⟨o, h1, h2⟩ := other e m
      rw [en] at h1
      cases h1
      exact h2 rfl
    refine wpAny_pyNext_enum_itemD D en z1 lt ne apart fun u h1 tk pu out z2 tup _ k1 => ⟨_, rfl, wpAny_letOwnedTupleGo_enum (s := { s with heap := h1, toks := tk + 1 }) out fun h2 en2 same => ?_⟩
    obtain ⟨x, rx, y⟩ := val u pu
    have older : ∀ b ∈ [e, it], b < s.heap.objs.size := fun b m => by
      simp only [List.mem_cons, List.not_mem_nil, or_false] at m
      rcases m with rfl | rfl
      · exact Heap.lt_size en
      · exact Heap.lt_size (S.obj i _ z).choose_spec.1
    have tup2 := (same.2 s.heap.objs.size (Nat.ne_of_gt (older e (by simp)))).trans tup
    have k2 : ∀ b ob, b ∉ [e, it] → s.heap.get? b = some ob → h2.get? b = some ob := fun b ob m q => by
      simp only [List.mem_cons, List.not_mem_nil, or_false, not_or] at m
      exact (same.2 b m.1).trans (k1 b ob m.1 m.2 q)
    refine ⟨.ref s.heap.objs.size, _, I.turnedNew (t' := tk + 1) (ob := .tup [.int (i : Nat), x]) k2 free (Nat.le_refl _) ⟨show 2 ≤ sizeLine by decide, [.int i tk, u], .cons ⟨_, rfl⟩ (.cons rx .nil), _, tup2, rfl, _, rfl⟩, rfl, ⟨_, x, rfl, I.hok.fresh (Nat.le_refl _), rfl, y⟩, ⟨ne, S.keep _ h1 h2 (nxt h1 z2) fun o q => (same.2 it ne.symm).trans q, u, en2⟩, fun b m => ?_⟩
    rw [upd_ne (Nat.ne_of_lt (older b m))]
    exact (free b m).1
  done := by
    rintro X rfl rfl rfl hc i pins s σ H E I free ⟨ne, z, old, en⟩ stop
    obtain ⟨fp, n, Pv, Sv, D, z1⟩ := S.over X rfl rfl rfl hc i pins s σ H I z stop
    obtain ⟨g0, g1, g2, g3, g4, g5⟩ := free it (by simp)
    exact wpAny_pyNext_enum_endD D en z1 fun h1 k => ⟨rfl, I.turned (t' := s.toks) (fun b o m q => k b o m q) g0 g1 g3 g4 g5⟩
  self := fun A i s Q E z h => wpAny_pyIter_enum z.2.2.choose_spec h
end
theorem pi_enumG {X : Cx} {e : Expr} {ta : TA} {p pos tpos : Pos} {elts : List Expr} {kk : Nat} {Wv : List V → Hp → (It → Hp → Prop) → Prop} (hg : Gl X "enumerate") (hm : X.mg "enumerate" = none) (ha : PA X [e] ta)
    (src : ∀ (pins : List (Addr × Obj)) (s : Shared) (σ : L2.St) (H : Hp) (R : It → Hp → Prop) (vs : List V) (us : List Value), Inv X pins σ H s → Vals vs us → Wv vs H R →
      ∃ (v : Value) (o : Obj) (Ok : Heap → Prop) (J : It) (st : Nat → Heap → Prop), us = [v] ∧ Begins v o Ok ∧ Ok s.heap ∧ DrawSrc X.prog X.w X.K J s.heap.objs.size st ∧ (∀ h, h.get? s.heap.objs.size = some o → st 0 h) ∧ R (ItE J) H)
    (hs : starEach [e] X.env = [(false, eval e X.env)] := by rfl) : PI X (.Tuple elts kk tpos) (.Call (.Name "enumerate" p) [e] [] pos) (fun σ H R => ta σ H fun vs H1 => Wv vs H1 R) := ⟨fun pins s σ H R I h => by
  refine Call_ (ld_blt I hg hm boot_enumerate (PyProof.Rows.callWith_type1 (thn (ha.run pos pins s σ H _ I h) fun us s1 ⟨vs, H1, I1, r1, q1⟩ => ?_) hs rfl))
  obtain ⟨v, o, Ok, J, st, rfl, B, ok, S, st0, q⟩ := src pins s1 σ H1 R vs us I1 r1 q1
  refine call_enumG B ok fun h1 k at0 en => wpAny_pyIter_enum en ⟨_, _, _, _, H1, rfl, I1.kept (t' := s1.toks) k, turn_enumG S _, ⟨Nat.succ_ne_self _, st0 h1 at0, .none, en⟩, fun b m => ?_, q⟩
  have le : s1.heap.objs.size ≤ b := by
    simp only [List.mem_cons, List.not_mem_nil, or_false] at m
    rcases m with rfl | rfl
    · exact Nat.le_succ _
    · exact Nat.le_refl _
  exact I1.fpOk le (I1.hok.fresh le)⟩
theorem src_tup {P : Program} {w : World} {K : PySem.W.Frag} (a it : Addr) : DrawSrc P w K (Itt K a) it (fun i h => h.IsTupleIter it a i) where
  obj := fun i h ⟨o, h1, _, h2⟩ => ⟨o, h1, fun v z => by rw [h2] at z; cases z⟩
  keep := fun i h h' ⟨o, h1, h2⟩ k => ⟨o, k o h1, h2⟩
  draw := by
    rintro X rfl rfl rfl hc i pins s σ H I z ⟨xs, x, hs, hx⟩
    obtain ⟨its, rv, ⟨o, g1, g2, g3⟩, hz⟩ := I.tuple hs
    obtain ⟨ot, t1, t2, t3⟩ := id z
    obtain ⟨u, hu, ru⟩ := rv.get hx
    have ne : a ≠ it := fun q => by
      subst q
      rw [g1] at t1
      cases t1
      rw [g2] at t2
      exact absurd t2 (by decide)
    refine ⟨_, _, _, _, Draws.tuple (A := X.A.in1) (show X.A.in1.handled = none from I.ok.hd hc) it a ne its.toArray, fun b m => ?_, ?_, ⟨z, o, g1, g2, g3⟩, fun h q => q.1, fun u' hu' => ⟨x, ?_, rfl, fun ys hy => by rw [I.tuple_inj hy hs]; exact hx⟩⟩
    · simp only [List.mem_cons, List.not_mem_nil, or_false] at m
      rcases m with rfl | rfl
      · exact ⟨ot, t1, by rw [t2]; decide⟩
      · exact ⟨o, g1, by rw [g2]; decide⟩
    · have := (List.getElem?_eq_some_iff.mp hu).1
      simpa using this
    · have : its[i]? = some u' := by simpa using hu'
      rw [hu] at this
      cases this
      exact ru
  over := by
    rintro X rfl rfl rfl hc i pins s σ H I z ⟨xs, hs, hx⟩
    obtain ⟨its, rv, p, hz⟩ := I.tuple hs
    have gone : its.toArray[i]? = none := by
      have := rv.length
      simp
      omega
    refine ⟨[it, a], i, fun _ _ => False, fun j h => j = i ∧ h.IsTupleIter it a i ∧ h.IsTuple a its.toArray, ⟨fun j h q => let ⟨o, q, _⟩ := q.2.1; ⟨o, q⟩, ?_, ?_, ?_⟩, rfl, z, p⟩
    · exact fun j h h' q k => ⟨q.1, q.2.1.at fun o z => k it (by simp) o z, q.2.2.at fun o z => k a (by simp) o z⟩
    · exact fun j s' Q E lt q => absurd q.1 (by omega)
    · exact fun s' Q E q hE => wpAny_nextOf_tuple_end (show X.A.in1.handled = none from I.ok.hd hc) q.2.1 q.2.2 gone hE
def Itet (K : PySem.W.Frag) (a : Addr) : It := ItE (Itt K a)
def iEnumT (K : PySem.W.Frag) (ta : TA) : TI := fun σ H R => ta σ H fun vs H1 => ∃ a xs, vs = [.ref a] ∧ SqT K H1 a xs ∧ R (Itet K a) H1
theorem pi_enumT {X : Cx} {e : Expr} {ta : TA} {p pos tpos : Pos} {elts : List Expr} {kk : Nat} (hg : Gl X "enumerate") (hm : X.mg "enumerate" = none) (ha : PA X [e] ta) (hs : starEach [e] X.env = [(false, eval e X.env)] := by rfl) : PI X (.Tuple elts kk tpos) (.Call (.Name "enumerate" p) [e] [] pos) (iEnumT X.K ta) :=
  pi_enumG hg hm ha (fun pins s σ H R vs us I r z => by
    obtain ⟨a, xs, rfl, hq, q⟩ := z
    obtain ⟨u, rfl, ru⟩ := r.one
    obtain rfl : u = .ref a := ru
    obtain ⟨its, rv, p', hz⟩ := I.tuple hq
    exact ⟨_, _, _, _, _, rfl, begins_tuple a its.toArray, p', src_tup a _, fun h q => ⟨_, q, rfl, rfl⟩, q⟩) hs
end Pt
namespace Pt
open PySem PySem.Spec PyProof.Rows L2
structure Written (X : Cx) (o : Expr) (name : Str) (apos cpos : Pos) (e : Expr) (es : List Expr) : Prop where
  base : attributeBase o name X.env (eval o X.env) = eval o X.env
  few : ((backTo cpos (starEach (e :: es) X.env)).all (fun x => !x.1) && (backToKw cpos (keywordEach [] X.env)).all (fun x => x.1.isSome) && decide ((e :: es).length + ([] : List Keyword).length + (if ([] : List Keyword).isEmpty then 0 else 1) < 30)) = true
  line : (apos.endLine == cpos.line) = true
  head : starEach (e :: es) X.env = (false, eval e X.env) :: starEach es X.env
  plain : (backTo cpos (starEach es X.env)).any (·.1) = false
theorem pe_bmG {X : Cx} {o e : Expr} {es : List Expr} {to : TE} {t : TA} {name : Str} {apos cpos : Pos} {T id : String} {r : V → List V → Hp → VK → Prop} {W : V → Hp → Prop} (pa : PlainAttrs T) (slot : Slot T name id) (hty : typeOf (.builtin id) = pure (.type "method_descriptor")) (hm : MtR X id r)
    (is : ∀ (pins : List (Addr × Obj)) (s : Shared) (σ : L2.St) (H : Hp) (x : V), Inv X pins σ H s → W x H → ∃ p ob, x = .ref p ∧ s.heap.get? p = some ob ∧ ob.cls = .type T ∧ ob.dict = none) (ho : PE X o to) (ha : PA X (e :: es) t) (c : Written X o name apos cpos e es) :
    PE X (.Call (.Attribute o name apos) (e :: es) [] cpos) (fun σ H Q => to σ H fun x H1 => W x H1 ∧ t σ H1 fun vs H2 => r x vs H2 Q) := ⟨fun pins s σ H Q I h => wpAny_Call_method_late c.base c.few c.line rfl (thn (ho.run pins s σ H _ I h) fun v s1 ⟨x, H1, I1, r1, w, q⟩ => by
  obtain ⟨p, ob, rfl, at0, cls, nd⟩ := is pins s1 σ H1 x I1 w
  obtain rfl : v = .ref p := r1
  have go := ha.run cpos pins s1 σ H1 _ I1 q
  rw [c.head] at go
  refine ⟨T, id, pa, slot, hty, ⟨ob, at0, cls⟩, fun a ea => ⟨ob, by cases ea; exact at0, nd⟩, ?_⟩
  rw [c.head]
  exact Calls.callWith_builtin ((Bool.false_or _).trans c.plain) (Calls.evalArgs_plain (thn go fun us s2 ⟨vs, H2, I2, r2, q2⟩ => hm pins s2 σ H2 (.ref p) vs _ us Q I2 rfl r2 q2)))⟩
end Pt
namespace Pt
open PySem PySem.Spec PyProof.Rows L2
end Pt
namespace Pt
open PySem PySem.Spec PyProof.Rows L2
variable {X : Cx} {o i e : Expr} {td ty tv : TE} {pos pos' : Pos}
abbrev Told (X : Cx) (W : V → V → Hp → VK → Prop) (Then : (List (Addr × Obj)) → Shared → L2.St → Hp → VK → Value → Value → Prop) : Prop := ∀ (pins : List (Addr × Obj)) (s : Shared) (σ : L2.St) (H : Hp) (x y : V) (u v : Value) (Q : VK), Inv X pins σ H s → RelV x u → RelV y v → W x y H Q → Then pins s σ H Q u v
theorem pe_at {W : V → V → Hp → VK → Prop} (go : Told X W fun pins s σ _ Q u v => s.TypeIs u "dict" ∧ wpAny (model X.prog X.w) X.A (getItem u v) (EP X pins σ Q) X.xe s) (ho : PE X o td) (hi : PE X i ty) (hs : NoSl i) : PE X (.Subscript o i pos) (fun σ H Q => td σ H fun x H1 => ty σ H1 fun y H2 => W x y H2 Q) :=
  ⟨fun pins _ σ _ Q I h => subD_of PySem.F.slot_dict_getitem.lookup hs (thn (ho.run pins _ σ _ _ I h) fun _ _ ⟨_, _, I1, r1, h1⟩ => thn (hi.run pins _ σ _ _ I1 h1) fun _ _ ⟨_, _, I2, r2, h2⟩ => go pins _ σ _ _ _ _ _ Q I2 r1 r2 h2)⟩
theorem ps_at {W : V → V → V → Hp → (Hp → Prop) → Prop} (go : ∀ (pins : List (Addr × Obj)) (s : Shared) (σ : L2.St) (H : Hp) (x y z : V) (u v w : Value) (Q : Hp → Prop), Inv X pins σ H s → RelV x u → RelV y v → RelV z w → W x y z H Q → wpAny (model X.prog X.w) X.A (setItem u v w) (fun _ s' => ∃ H', Inv X pins σ H' s' ∧ Q H') X.xe s) (ho : PE X o td) (hi : PE X i ty) (he : PE X e tv) (hs : swapsWith e (some (.Subscript o i pos')) pos.line X.env = pure false) :
    PS X (.Assign [.Subscript o i pos'] e pos) (fun D σ H => tv σ H fun z H1 => td σ H1 fun x H2 => ty σ H2 fun y H3 => W x y z H3 (D.nx σ)) :=
  ⟨fun pins _ σ _ D I h => wpAny_Assign_Subscript (thn (he.run pins _ σ _ _ I h) fun _ _ ⟨_, _, I1, r1, h1⟩ => thn (ho.run pins _ σ _ _ I1 h1) fun _ _ ⟨_, _, I2, r2, h2⟩ => thn (hi.run pins _ σ _ _ I2 h2) fun _ _ ⟨_, _, I3, r3, h3⟩ => wpAny_mono (go pins _ σ _ _ _ _ _ _ _ _ I3 r2 r3 r1 h3) (fun _ _ ⟨H', I', q⟩ => ⟨σ, H', I', q⟩) fun _ _ z => z) hs⟩
end Pt
namespace Pt
open PySem PySem.Spec PyProof.Rows L2
theorem int_cells {its : List Value} {ns : List Int} (i : IntsAre its ns) (j : Nat) (h : j < its.toArray.size) : ∃ t, its.toArray[j] = .int (ns.getD j 0) t :=
  PyProof.Rows.IntsAre.int_at i _ _ (by simp at h; simp [h])
section
variable {X : Cx}
def eqI (k : Int) (v : Value) : Bool := match v with
  | .int j _ => j == k
  | _ => false
def rCntT (K : PySem.W.Frag) : V → List V → Hp → VK → Prop := fun x xs H Q => ∃ (p : Addr) (ns : List Int) (k : Int), x = .ref p ∧ xs = [.int k] ∧ SqT K H p (ns.map V.int) ∧ Q (.int (ns.count k : Nat)) H
theorem intsAre_countP {k : Int} : ∀ {its : List Value} {ns : List Int}, IntsAre its ns → its.countP (eqI k) = ns.count k
  | _, _, .nil => rfl
  | _, _, .cons n t h => by
    rw [List.countP_cons, List.count_cons, intsAre_countP h]
    rfl
theorem mt_tcount : MtR X "tuple.count" (rCntT X.K) := fun pins s σ H x xs v us Q I rx rxs ⟨p, ns, k, ex, exs, tup, q⟩ => by
  subst ex exs
  obtain rfl : v = .ref p := rx
  obtain ⟨_, rfl, t, rfl⟩ := rxs.one
  obtain ⟨its, rv, ⟨⟨_, dd, _, sl⟩, here, rfl, n, rfl⟩, _⟩ := I.tuple tup
  have ia : IntsAre its ns := Vals.ints rv
  refine call_meets PySem.F.slot_tuple_count ⟨_, here, rfl⟩ PySem.F.entry_tuple_count (PySem.F.args_tuple_count_2 _ _) (SeqAt.tuple_countAt p its.toArray n dd sl (.int k t) (eqI k)) ⟨here, fun y hy => ?_, .int (ns.count k : Nat), H, I.tok _, ⟨s.toks, congrArg (fun m : Nat => Value.int m s.toks) (intsAre_countP ia)⟩, q⟩
  obtain ⟨j, lt, rfl⟩ := Array.getElem_of_mem hy
  obtain ⟨t', e⟩ := int_cells ia j lt
  rw [e]
  exact SeqAt.EqAt.int_int _ _ _ _
def rInT (K : PySem.W.Frag) : R2 := fun x y H Q => ∃ d ds, Dp K H x d ∧ Dp K H y (.tuple ds) ∧ SeqAt.shaped d = true ∧ SeqAt.shaped (.tuple ds) = true ∧ Q (.bl (ds.any fun z => PyData.eqv z d)) H
theorem op_inT (hu : X.A.units + 65 < cLine) : OpR X (compareOp .In) (rInT X.K) := by
  intro pins s σ H x y v u Q I rx ry h
  obtain ⟨d, ds, hd, he, sd, se, q⟩ := h
  obtain ⟨as, r1⟩ := Dp.reads I d x v hd rx
  obtain ⟨bs, r2⟩ := Dp.reads I (.tuple ds) y u he ry
  exact SeqAt.in_tuple_reads r2 r1 (SeqAt.canLay_of_shaped se) (SeqAt.canLay_of_shaped sd) (room_in_shaped sd hu) ⟨.bl _, H, I, rfl, q⟩
end
end Pt
namespace Pt
open PySem PySem.Spec PyProof.Rows L2
variable {K : PySem.W.Frag} {C : Addr} {H H' H1 H2 : Hp} {v w x y : V} {vs : List V} {d e : PyData} {ds es : List PyData}
variable {S : List Addr} {G : List (V × PyData)} {H0 : Hp} {σ : L2.St} {Γ : List Ct} {i j : Nat} {c : Ct} {te ta tb tc tl : TE} {t u : TT}
theorem pt_tru {X : Cx} {a : Expr} {ta : TE} (ha : PE X a ta) (he : ∀ whole, isTrue a X.env whole = (do let v ← whole; standAt a.pos; holding [v] (truthy v))) : PT X a (tTru X.K ta) := pt_truth ha he
theorem et_truB {b : Bool} (h : EvC K C te σ H (.d (.bool b))) : EvT (tTru K te) σ H b := fun H1 e1 Q q => h H1 e1 _ fun v H2 e2 a => by
  rw [Td.bl_of a]
  exact ⟨b, rfl, q H2 e2⟩
theorem et_truT (h : EvC K C te σ H (.d (.tuple ds))) : EvT (tTru K te) σ H (!ds.isEmpty) := fun H1 e1 Q q => h H1 e1 _ fun v H2 e2 a => by
  obtain ⟨p, xs, rfl, s, t⟩ := Td.tup_of a
  refine ⟨!ds.isEmpty, .inr (.inl ⟨xs, s.sq, ?_⟩), q H2 e2⟩
  cases t <;> rfl
def tyName : PyData → String
  | .none => "NoneType"
  | .bool _ => "bool"
  | .int _ => "int"
  | .str _ => "str"
  | .list _ => "list"
  | .tuple _ => "tuple"
  | .dict _ => "dict"
theorem Td.ty : ∀ {d : PyData} {v : V}, Td K H v d → TyX K H v (.type (tyName d))
  | _, _, .non => .base .non
  | _, _, .bl b => .base (.bl b)
  | _, _, .int k => .base (.int k)
  | _, _, .str z => .base (.str z)
  | _, _, .tup s _ => by
    obtain ⟨o, s, _⟩ := s
    exact .fTuple s
  | _, _, .lst s _ => by
    obtain ⟨o, s⟩ := s
    exact .base (.frz s)
theorem ev_isi {T : String} {b : Bool} (h : EvC K C te σ H (.d d)) (hk : kitB (tyName d) T = some b) : EvC K C (tCB (rIsi K) (tCons te (tCons (tC (.ty T)) tNil))) σ H (.d (.bool b)) := fun H1 e1 Q q =>
  h H1 e1 _ fun v H2 e2 a => ⟨v, .ty T, _, _, b, rfl, .ty T, Td.ty a, kit_ty hk, q _ H2 e2 (.bl b)⟩
def tBMT (r : V → List V → Hp → VK → Prop) (to : TE) (t : TA) : TE := fun σ H Q => to σ H fun x H1 => (∃ p xs, x = .ref p ∧ SqF H1 p xs) ∧ t σ H1 fun vs H2 => r x vs H2 Q
theorem pe_bmT {X : Cx} {o e : Expr} {es : List Expr} {to : TE} {t : TA} {name : Str} {apos cpos : Pos} {id : String} {r : V → List V → Hp → VK → Prop} (pa : PlainAttrs "tuple") (slot : Slot "tuple" name id) (hty : typeOf (.builtin id) = pure (.type "method_descriptor")) (hm : MtR X id r) (ho : PE X o to) (ha : PA X (e :: es) t) (c : Written X o name apos cpos e es := by exact ⟨rfl, rfl, rfl, rfl, rfl⟩) : PE X (.Call (.Attribute o name apos) (e :: es) [] cpos) (tBMT r to t) :=
  pe_bmG pa slot hty hm (fun pins s σ H x I ⟨p, xs, ex, ob, eo, nd⟩ => by
    obtain ⟨here, _⟩ := I.hok p _ eo
    obtain ⟨its, _, ⟨o2, e2, c2, _⟩, _⟩ := I.tuple (SqF.sq ⟨ob, eo, nd⟩)
    rw [here] at e2
    cases e2
    exact ⟨p, ob, ex, here, c2, nd⟩) ho ha c
theorem ev_countT {l : List Int} {k : Int} (ha : EvC K C ta σ H (.d (row l))) (hb : EvC K C tb σ H (.d (.int k))) : EvC K C (tBMT (rCntT K) ta (tCons tb tNil)) σ H (.d (.int (l.count k : Nat))) := fun H1 e1 Q q =>
  ha H1 e1 _ fun v H2 e2 a => by
    obtain ⟨p, xs, rfl, s, t⟩ := Td.tup_of a
    have ex := t.iL_of
    subst ex
    exact ⟨⟨p, _, rfl, s⟩, hb H2 (e1.trans e2) _ fun y H3 e3 b => ⟨p, l, k, rfl, by rw [Td.int_of b], ((Tx.of e3).sqF s).sq, q _ H3 (e2.trans e3) (.int _)⟩⟩
theorem shaped_pair (a b : Int) : SeqAt.shaped (.tuple [.int a, .int b]) = true := shaped_row [a, b]
theorem lay_pairs : ∀ ps : List (Int × Int), PyData.canLayAll0 (ps.map pairD) = true
  | [] => by simp [PyData.canLayAll0]
  | p :: ps => by
    have := lay_pairs ps
    simp [PyData.canLayAll0, PyData.canLay0, pairD, this]
theorem depth_pairs : ∀ ps : List (Int × Int), PyData.depthAll (ps.map pairD) ≤ 2
  | [] => by simp [PyData.depthAll]
  | p :: ps => by
    have := depth_pairs ps
    simp only [List.map_cons, PyData.depthAll, PyData.depth, pairD]
    omega
theorem shaped_pairs (ps : List (Int × Int)) : SeqAt.shaped (pairsD ps) = true := by
  show ((pairsD ps).canLay0 && decide ((pairsD ps).depth ≤ 64)) = true
  have h1 := depth_pairs ps
  rw [Bool.and_eq_true]
  refine ⟨?_, decide_eq_true ?_⟩
  · simp only [pairsD, PyData.canLay0]; exact lay_pairs ps
  · simp only [pairsD, PyData.depth]; omega
theorem any_pairs (a b : Int) : ∀ ps : List (Int × Int), ((ps.map pairD).any fun z => PyData.eqv z (.tuple [.int a, .int b])) = decide ((a, b) ∈ ps)
  | [] => by simp
  | (x, y) :: ps => by
    rw [List.map_cons, List.any_cons, any_pairs a b ps]
    have e : PyData.eqv (pairD (x, y)) (.tuple [.int a, .int b]) = decide ((a, b) = (x, y)) := by
      have z := eqv_row [x, y] [a, b]
      show PyData.eqv (row [x, y]) (row [a, b]) = _
      rw [z]
      by_cases q : (a, b) = (x, y)
      · cases q; simp
      · rw [decide_eq_false q, decide_eq_false]
        intro q'
        apply q
        simp at q'
        rw [q'.1, q'.2]
    rw [e]
    by_cases q : (a, b) = (x, y)
    · simp [q]
    · simp [q]
theorem ev_inP {a b : Int} {ps : List (Int × Int)} (ha : EvC K C ta σ H (.d (.tuple [.int a, .int b]))) (hb : EvC K C tb σ H (.d (pairsD ps))) : EvC K C (tOp (rInT K) ta tb) σ H (.d (.bool (decide ((a, b) ∈ ps)))) :=
  any_pairs a b ps ▸ ev_op2 ha hb fun H1 _ x y a1 a2 Q q => ⟨_, ps.map pairD, Td.dp _ _ a1, Td.dp _ _ a2, shaped_pair a b, shaped_pairs ps, q _ H1 (Same.refl H1) (.bl _)⟩
theorem kne : (("_pairs" : Str) == "_letters") = false := by decide +kernel
theorem flds_pairs (n : Int) (r : Addr) : (flds n r).lookup ("_pairs" : Str) = some (.ref r) := by
  unfold flds
  rw [List.lookup_cons, kne, List.lookup_cons, beq_self_eq_true]
theorem ev_letters {n : Int} {ps : List (Int × Int)} {E : XK} (ha : EvC K C ta σ H (.t n ps)) : EvC K C (tProp C (getSp C "_letters") [] E ta) σ H (.d (.int n)) := fun H1 e1 Q q =>
  ha H1 e1 _ fun v H2 e2 a => by
    obtain ⟨p, dx, r, rfl, h1, h2⟩ := a
    exact ⟨p, dx, _, rfl, h1, p, dx, _, .int n, rfl, h1, rfl, q _ H2 e2 (.int n)⟩
theorem ev_pairs {n : Int} {ps : List (Int × Int)} {E : XK} (ha : EvC K C ta σ H (.t n ps)) : EvC K C (tProp C (getSp C "_pairs") [] E ta) σ H (.d (pairsD ps)) := fun H1 e1 Q q =>
  ha H1 e1 _ fun v H2 e2 a => by
    obtain ⟨p, dx, r, rfl, h1, h2⟩ := a
    exact ⟨p, dx, _, rfl, h1, p, dx, _, .ref r, rfl, h1, flds_pairs _ _, q _ H2 e2 h2⟩
section
variable {X : Cx} (K : PySem.W.Frag)
theorem op_addK (h : X.K = K := by rfl) : OpR X (binaryOp .Add) (rAddU K) := h ▸ op_addU
theorem op_eqK (hu : X.A.units + 64 < cLine) (h : X.K = K := by rfl) : OpR X (compareOp .Eq) (rEqD K) := h ▸ op_eqD hu
theorem op_neK (hu : X.A.units + 64 < cLine) (h : X.K = K := by rfl) : OpR X (compareOp .NotEq) (rNeD K) := h ▸ op_neD hu
theorem op_inK (h : X.K = K := by rfl) : OpR X (compareOp .In) (rIn K false) := h ▸ op_in_seq
theorem op_notInK (h : X.K = K := by rfl) : OpR X (compareOp .NotIn) (rIn K true) := h ▸ op_notIn_seq
theorem op_inTK (hu : X.A.units + 65 < cLine) (h : X.K = K := by rfl) : OpR X (compareOp .In) (rInT K) := h ▸ op_inT hu
theorem op_leTK (hu : X.A.units < cLine) (h : X.K = K := by rfl) : OpR X (compareOp .LtE) (rLeT K) := h ▸ op_leT hu
theorem ix_K (h : X.K = K := by rfl) : IxR X (rIx K) := h ▸ ix_seq
theorem sl_K (h : X.K = K := by rfl) : SlR X (rSlU K) := h ▸ sl_U
theorem call_lenK (h : X.K = K := by rfl) : CallR X (.builtin "len") (rLen K) := h ▸ call_len1
theorem call_listK (h : X.K = K := by rfl) : CallR X (.type "list") (rListOf K) := h ▸ call_list_of'
theorem call_tupleK (h : X.K = K := by rfl) : CallR X (.type "tuple") (rTupleOf K) := h ▸ call_tuple_of'
theorem call_allK (hc : X.calm = true) (h : X.K = K := by rfl) : CallR X (.builtin "all") (rAll K) := h ▸ cr_all hc
theorem call_isiK (h : X.K = K := by rfl) : CallR X (.builtin "isinstance") (rIsi K) := h ▸ call_isi
theorem mt_tcountK (h : X.K = K := by rfl) : MtR X "tuple.count" (rCntT K) := h ▸ mt_tcount
theorem pt_truK {a : Expr} {ta : TE} (ha : PE X a ta) (he : ∀ whole, isTrue a X.env whole = (do let v ← whole; standAt a.pos; holding [v] (truthy v))) (h : X.K = K := by rfl) : PT X a (tTru K ta) := h ▸ pt_tru ha he
theorem pi_tupK {tg l : Expr} {tl : TE} (hl : PE X l tl) (h : X.K = K := by rfl) : PI X tg l (iTup K tl) := h ▸ pi_tup hl
theorem pi_listK {tg l : Expr} {tl : TE} (hl : PE X l tl) (h : X.K = K := by rfl) : PI X tg l (iList K tl) := h ▸ pi_list hl
end
theorem Wd.start1 {N : List Str} {v1 : V} {c1 : Ct} (a1 : AgAt K C H v1 (.c c1)) (ho : [c1].all (fun c => !c.own) = true := by rfl) (hl : 1 ≤ N.length := by decide) :
    Wd K C [] [] H H (L2.start N [v1]) ([c1] ++ List.replicate (N.length - 1) .u) := Wd.start (vs := [v1]) (cs := [c1]) ⟨a1, True.intro⟩ ho hl
theorem Wd.start2 {N : List Str} {v1 v2 : V} {c1 c2 : Ct} (a1 : AgAt K C H v1 (.c c1)) (a2 : AgAt K C H v2 (.c c2)) (ho : [c1, c2].all (fun c => !c.own) = true := by rfl) (hl : 2 ≤ N.length := by decide) :
    Wd K C [] [] H H (L2.start N [v1, v2]) ([c1, c2] ++ List.replicate (N.length - 2) .u) := Wd.start (vs := [v1, v2]) (cs := [c1, c2]) ⟨a1, a2, True.intro⟩ ho hl
theorem Wd.start3 {N : List Str} {v1 v2 v3 : V} {c1 c2 c3 : Ct} (a1 : AgAt K C H v1 (.c c1)) (a2 : AgAt K C H v2 (.c c2)) (a3 : AgAt K C H v3 (.c c3)) (ho : [c1, c2, c3].all (fun c => !c.own) = true := by rfl) (hl : 3 ≤ N.length := by decide) :
    Wd K C [] [] H H (L2.start N [v1, v2, v3]) ([c1, c2, c3] ++ List.replicate (N.length - 3) .u) := Wd.start (vs := [v1, v2, v3]) (cs := [c1, c2, c3]) ⟨a1, a2, a3, True.intro⟩ ho hl
theorem AgAt.lent {ds : List PyData} (h : AgAt K C H v (.n ds)) : ∃ p, AgAt K C H v (.c (.s p ds)) := let ⟨p, xs, a, b, c⟩ := h; ⟨p, a, xs, b, c⟩
theorem ev_isiI {T : String} {b : Bool} {k : Int} (h : EvC K C te σ H (.d (.int k))) (hk : kitB "int" T = some b) : EvC K C (tCB (rIsi K) (tCons te (tCons (tC (.ty T)) tNil))) σ H (.d (.bool b)) := ev_isi h hk
theorem ev_isiT {T : String} {b : Bool} (h : EvC K C te σ H (.d (.tuple ds))) (hk : kitB "tuple" T = some b) : EvC K C (tCB (rIsi K) (tCons te (tCons (tC (.ty T)) tNil))) σ H (.d (.bool b)) := ev_isi h hk
variable {D : Ends}
theorem s_retQ {Q : VK} {nx : L2.St → Hp → Prop} {bk ct} (w : Wd K C [] G H0 H σ Γ) (q : ∀ v H', Same H0 H' → Td K H' v d → Q v H') (h : EvC K C te σ H (.d d)) : tRet te { nx := nx, rt := Q, bk := bk, ct := ct } σ H := s_ret w h fun v H1 w1 a => q v H1 w1.fr0 a
theorem s_retNQ {Q : VK} {nx : L2.St → Hp → Prop} {bk ct} (w : Wd K C [] G H0 H σ Γ) (q : ∀ p H', H0 p = none → Same H0 H' → CtAt K C H' (.ref p) (.l p ds) → Q (.ref p) H') (h : EvN K C te σ H ds) : tRet te { nx := nx, rt := Q, bk := bk, ct := ct } σ H := s_retN w h fun p H1 hp w1 a => q p H1 hp w1.fr0 a
variable {tu tw tz : TS}
theorem s_when (w : Wd K C S G H0 H σ Γ) {b : Bool} (h : EvT t σ H b) (h1 : b = true → ∀ H1, Wd K C S G H0 H1 σ Γ → tu { D with nx := tz D } σ H1) (h2 : b = false → ∀ H1, Wd K C S G H0 H1 σ Γ → tz D σ H1) : tSeq (tIfS t tu tNext) tz D σ H :=
  s_seq (s_if w h h1 h2)
theorem ev_varD (w : Wd K C S G H0 H σ Γ) (h : Γ[i]? = some (.d d)) : EvC K C (tVar i) σ H (.d d) := ev_var w h
theorem ev_varT {n : Int} {ps : List (Int × Int)} (w : Wd K C S G H0 H σ Γ) (h : Γ[i]? = some (.t n ps)) : EvC K C (tVar i) σ H (.t n ps) := ev_var w h
end Pt
namespace Pt
open PySem PySem.Spec PyProof.Rows L2
theorem walk_E {J : It} {n : Nat} {G : Hp → Prop} {Y : Nat → Hp → V → Hp → Prop} (w : Walk J n G Y) : Walk (ItE J) n G (fun i H v H' => ∃ T x, v = .ref T ∧ H T = none ∧ H' = upd H T (.tup [.int (i : Nat), x]) ∧ Y i H x H) :=
  ⟨w.goes, w.stops, fun i H _ _ lt g ⟨T, x, a, b, c, y⟩ => ⟨T, x, a, b, c, w.yields i H x H lt g y⟩⟩
def ItL (D : HO) (d : Addr) (o : Obj) (n : Nat) (pick : Nat → V → Prop) : It :=
  ⟨fun i H => H d = some (.frz o D) ∧ i < n, fun i H x H' => H' = H ∧ pick i x, fun i H => H d = some (.frz o D) ∧ n ≤ i⟩
theorem walk_L {D : HO} {d : Addr} {o : Obj} {n : Nat} {pick : Nat → V → Prop} : Walk (ItL D d o n pick) n (fun H => H d = some (.frz o D)) (fun i H x H' => H' = H ∧ pick i x) :=
  ⟨fun _ _ a b => ⟨b, a⟩, fun _ b => ⟨b, Nat.le_refl _⟩, fun _ _ _ _ _ _ y => y⟩
def Lk (P : Program) (w : World) (D : HO) (d : Addr) (o : Obj) (n : Nat) (keys vals : Nat → V → Prop) : Prop :=
  ∀ (X : Cx), X.prog = P → X.w = w → ∀ (pins : List (Addr × Obj)) (s : Shared) (σ : L2.St) (H : Hp), Inv X pins σ H s → H d = some (.frz o D) →
    (d == sysModules) = false ∧ ∃ (es : Array DictEntry) (ep : Nat), s.heap.DictRaw d es ep ∧ o.data = .dict es ep ∧ es.size = n ∧ ∀ (i : Nat) (hi : i < es.size), (∃ x, keys i x ∧ RelV x es[i].key) ∧ ∃ y, vals i y ∧ RelV y es[i].val
section
variable {P : Program} {w : World} {K : PySem.W.Frag} {tg : Expr} {J : It} {it : Addr} {st : Nat → Heap → Prop}
theorem turn_cell (ty : String) (cell : ∀ i h, st i h → ∃ o vs, h.get? it = some o ∧ o.cls = .type ty ∧ o.data = .fields vs) (keep : ∀ i h h', st i h → (∀ o, h.get? it = some o → h'.get? it = some o) → st i h')
    (next : ∀ (X : Cx), X.prog = P → X.w = w → X.K = K → X.calm = true → ∀ (i : Nat) (pins : List (Addr × Obj)) (s : Shared) (σ : L2.St) (H : Hp) (E : Value → Shared → Prop), Inv X pins σ H s → st i s.heap → J.go i H →
      ∃ u x, RelV x u ∧ J.yld i H x H ∧ ∀ Q : Option Value → Shared → Prop, (∀ h', st (i + 1) h' → Heap.SameBut it s.heap h' → Q (some u) { s with heap := h' }) → wpAny (model P w) X.A (pyNext (.ref it)) Q E s)
    (last : ∀ (X : Cx), X.prog = P → X.w = w → X.K = K → X.calm = true → ∀ (i : Nat) (pins : List (Addr × Obj)) (s : Shared) (σ : L2.St) (H : Hp) (E : Value → Shared → Prop), Inv X pins σ H s → st i s.heap → J.stop i H →
      ∀ Q : Option Value → Shared → Prop, (∀ h', Heap.ExtBut it s.heap h' → Q none { s with heap := h' }) → wpAny (model P w) X.A (pyNext (.ref it)) Q E s)
    (self : ∀ (A : Around) (i : Nat) (s : Shared) (Q E : Value → Shared → Prop), st i s.heap → Q (.ref it) s → wpAny (model P w) A (pyIter (.ref it)) Q E s)
    (other : ["enumerate", "zip", "dict_itemiterator", "dict_reverseitemiterator", "odict_iterator", "itertools.zip_longest", "itertools.pairwise"].contains ty = false := by decide) : Turn P w K tg J [it] it st where
  mem := List.mem_singleton_self it
  obj := fun i h z b m => by
    cases List.mem_singleton.mp m
    obtain ⟨o, vs, a, _, c⟩ := cell i h z
    exact ⟨o, a, fun v q => by rw [c] at q; cases q⟩
  keep := fun i h h' z k => keep i h h' z (k it (List.mem_singleton_self it))
  item := fun X hP hw hK hc i pins s σ H E I free z go => by
    obtain ⟨u, x, rx, y, run⟩ := next X hP hw hK hc i pins s σ H E I z go
    obtain ⟨g0, g1, g2, g3, g4, g5⟩ := free it (List.mem_singleton_self it)
    refine run _ fun h' z' same => ?_
    obtain ⟨o, vs, a, b, c⟩ := cell (i + 1) h' z'
    exact ⟨u, rfl, go_of (s := { s with heap := h' }) a b c other ⟨x, H, I.turned (t' := s.toks) (fun b' o' n q => (same.2 b' n).trans q) g0 g1 g3 g4 g5, rx, y, z', fun b' m => (free b' m).1⟩⟩
  done := fun X hP hw hK hc i pins s σ H E I free z stop => by
    obtain ⟨g0, g1, g2, g3, g4, g5⟩ := free it (List.mem_singleton_self it)
    exact last X hP hw hK hc i pins s σ H E I z stop _ fun h' k => ⟨rfl, I.turned (t' := s.toks) (fun b' o' n q => k b' o' n q) g0 g1 g3 g4 g5⟩
  self := self
variable {D : HO} {d : Addr} {o : Obj} {n : Nat} {keys vals : Nat → V → Prop} {es : Array DictEntry} {ep : Nat}
theorem turn_keysL (L : Lk P w D d o n keys vals) (e : o.data = .dict es ep) : Turn P w K tg (ItL D d o n keys) [it] it (fun i h => h.IsKeyIter it d i n ep) :=
  turn_cell "dict_keyiterator" (fun i h ⟨oi, a, b, c⟩ => ⟨oi, _, a, b, c⟩) (fun i h h' z k => z.at k)
    (fun X hP hw hK hc i pins s σ H E I z ⟨g1, g2⟩ => by
      obtain ⟨_, es', ep', raw, e', rfl, cells⟩ := L X hP hw pins s σ H I g1
      obtain ⟨rfl, rfl⟩ := dict_ep e e'
      obtain ⟨⟨x, kx, rx⟩, _⟩ := cells i g2
      exact ⟨_, x, rx, ⟨rfl, kx⟩, fun Q q => wpAny_pyNext_keys_item_raw z raw g2 q⟩)
    (fun X hP hw hK hc i pins s σ H E I z ⟨g1, g2⟩ => by
      obtain ⟨_, es', ep', raw, e', rfl, _⟩ := L X hP hw pins s σ H I g1
      obtain ⟨rfl, rfl⟩ := dict_ep e e'
      exact fun Q q => wpAny_pyNext_keys_end_raw (I.ok.hd hc) z raw g2 q)
    fun A i s Q E z h => wpAny_pyIter_keyiter z h
end
end Pt
namespace Pt
open PySem PySem.Spec PyProof.Rows L2
theorem lk_of {P : Program} {w : World} {α κ : Type} [DecidableEq κ] {knd : HeapKind P w κ} {D : HO} {d : Addr} {o : Obj} {R : α → κ × Addr × Value → Prop} {en : List α} (key val : α → V) (rel : ∀ a q, R a q → RelV (key a) (.ref q.2.1) ∧ RelV (val a) q.2.2)
    (tells : ∀ (H : Hp) (h : Heap), ObjOk P w H h d D → (d == sysModules) = false ∧ ∃ xs, Paired R en xs ∧ ∃ o' ent ep, h.get? d = some o' ∧ o'.ExactDict ∧ o'.data = .dict ent ep ∧ ent.toList = xs.map (entryOfKey knd)) :
    Lk P w D d o en.length (fun i x => ∃ a, en[i]? = some a ∧ x = key a) (fun i y => ∃ a, en[i]? = some a ∧ y = val a) := fun X hP hw pins s σ H I e => by
  subst hP hw
  obtain ⟨here, ok⟩ := (show ObjOk X.prog X.w H s.heap d (.frz o D) from I.hok d _ e)
  obtain ⟨main, xs, r, o', ent, ep, h1, h2, h3, h4⟩ := tells H s.heap ok
  obtain rfl : o = o' := Option.some.inj (here.symm.trans h1)
  have len : ent.size = xs.length := size_of_entries h4
  refine ⟨main, ent, ep, ⟨o, here, h2, h3⟩, h3, len.trans r.length.symm, fun i hi => ?_⟩
  have lt : i < en.length := by rw [r.length, ← len]; exact hi
  obtain ⟨q, hq, rq⟩ := L2.paired_get r (List.getElem?_eq_getElem lt)
  have cell := entry_at h4 i
  rw [hq, Array.getElem?_eq_getElem hi] at cell
  have cell : ent[i] = entryOfKey knd q := Option.some.inj cell
  obtain ⟨rk, rv⟩ := rel _ q rq
  rw [cell]
  exact ⟨⟨_, ⟨_, List.getElem?_eq_getElem lt, rfl⟩, rk⟩, _, ⟨_, List.getElem?_eq_getElem lt, rfl⟩, rv⟩
section
variable {X : Cx} {D : HO} {d : Addr} {o : Obj} {n : Nat} {keys vals : Nat → V → Prop} {pins : List (Addr × Obj)} {σ : L2.St} {H : Hp} {s : Shared} {tg : Expr} {R : It → Hp → Prop}
theorem begin_keysL (L : Lk X.prog X.w D d o n keys vals) (I : Inv X pins σ H s) (e : H d = some (.frz o D)) (q : R (ItL D d o n keys) H) : wpAny (model X.prog X.w) X.A (pyIter (.ref d)) (PIE X pins σ tg R) X.xe s := by
  obtain ⟨main, es, ep, raw, e', rfl, _⟩ := L X rfl rfl pins s σ H I e
  exact wpAny_pyIter_dict_raw main raw (pi_one (tk := s.toks) I _ (turn_keysL L e') ⟨_, Heap.get?_push_size _ rfl, rfl, rfl⟩ q)
end
end Pt
namespace Pt
open PySem PySem.Spec PyProof.Rows L2
variable {K : PySem.W.Frag} {C : Addr} {H H' H1 H2 : Hp} {v w x y : V} {vs : List V} {d e : PyData} {ds es : List PyData}
variable {S : List Addr} {G : List (V × PyData)} {H0 : Hp} {σ : L2.St} {Γ : List Ct} {i j : Nat} {c : Ct} {te ta tb tc tl : TE} {t u : TT}
structure InsK (K : PySem.W.Frag) (C : Addr) : Prop extends C8.InsC K C where
  nt : PySem.W.kitOne K (.type "tuple") (.ref C) = some false
theorem ev_isiTr {n : Int} {ps : List (Int × Int)} (ic : InsK K C) (h : EvC K C te σ H (.t n ps)) : EvC K C (tCB (rIsi K) (tCons te (tCons (tC (.ref C)) tNil))) σ H (.d (.bool true)) := fun H1 e1 Q q =>
  h H1 e1 _ fun v H2 e2 a => by
    obtain ⟨p, dx, r, rfl, h1, h2⟩ := a
    exact ⟨.ref p, .ref C, _, _, true, rfl, .own C, .base (.ins h1 ic.cl ic.ha ic.hn ic.htk ic.hm), ic.me, q _ H2 e2 (.bl true)⟩
theorem kept_all {α : Type} (g : α → PyData) (l : List α) : kept (fun _ => true) g l = l.map g := by
  unfold kept
  rw [List.filter_eq_self.mpr (fun _ _ => rfl)]
variable {D : Ends} {tu tw tz : TS}
theorem q_asgD (w : Wd K C S G H0 H σ Γ) (h : EvC K C te σ H (.d d)) (k : ∀ σ1 H1, Wd K C S G H0 H1 σ1 (Γ.set i (.d d)) → tz D σ1 H1) : tSeq (tAsg te (gName i)) tz D σ H := s_asg (D := { D with nx := tz D }) w h (fun _ σ1 H1 _ w1 => k σ1 H1 w1)
theorem q_asgN (w : Wd K C S G H0 H σ Γ) (h : EvN K C te σ H ds) (k : ∀ p σ1 H1, H0 p = none → Wd K C S G H0 H1 σ1 (Γ.set i (.l p ds)) → tz D σ1 H1) : tSeq (tAsg te (gName i)) tz D σ H := s_asgN (D := { D with nx := tz D }) w h k
theorem q_if (w : Wd K C S G H0 H σ Γ) {b : Bool} (h : EvT t σ H b) (h1 : b = true → ∀ H1, Wd K C S G H0 H1 σ Γ → tu { D with nx := tz D } σ H1) (h2 : b = false → ∀ H1, Wd K C S G H0 H1 σ Γ → tw { D with nx := tz D } σ H1) : tSeq (tIfS t tu tw) tz D σ H := s_if (D := { D with nx := tz D }) w h h1 h2
theorem q_drop (w : Wd K C S G H0 H σ Γ) (h : EvC K C te σ H c) (k : ∀ H1, Wd K C S G H0 H1 σ Γ → tz D σ H1) : tSeq (tDrop te) tz D σ H := s_drop (D := { D with nx := tz D }) w h k
theorem q_app (w : Wd K C S G H0 H σ Γ) {p : Addr} (hi : Γ[i]? = some (.l p ds)) (h : EvC K C te σ H (.d d)) (hz : ds.length < 10000000) (k : ∀ H1, Wd K C S G H0 H1 σ (Γ.set i (.l p (ds ++ [d]))) → tz D σ H1) :
    tSeq (tDrop (tBM K "list" rAppend (tVar i) (tCons te tNil))) tz D σ H := s_app (D := { D with nx := tz D }) w hi h hz k
theorem q_forR1 (w : Wd K C S G H0 H σ Γ) {n : Int} {ts : TA} (h : EvA K C ts σ H [.c (.d (.int n))]) (hn : n ≤ 10000000 ∧ -10000000 ≤ n) (Pv : Nat → L2.St → Hp → Prop) (h0 : ∀ H1, Wd K C S G H0 H1 σ Γ → Pv 0 σ H1)
    (hs : ∀ (k : Nat) σ' H', (k : Int) < n → Pv k σ' H' → tu { D with nx := Pv (k + 1), ct := Pv (k + 1), bk := tz D } (σ'.set j (some (.int (k : Int)))) H') (hd : ∀ σ' H', Pv n.toNat σ' H' → tz D σ' H') : tSeq (tFor (iRng1 ts) (gName j) tu) tz D σ H :=
  s_forR1 (D := { D with nx := tz D }) w h hn Pv h0 hs hd
theorem q_forR2 (w : Wd K C S G H0 H σ Γ) {lo n : Int} {ts : TA} (h : EvA K C ts σ H [.c (.d (.int lo)), .c (.d (.int n))]) (hn : n ≤ 10000000 ∧ -10000000 ≤ n ∧ -10000000 ≤ lo ∧ lo ≤ 10000000) (Pv : Nat → L2.St → Hp → Prop) (h0 : ∀ H1, Wd K C S G H0 H1 σ Γ → Pv 0 σ H1)
    (hs : ∀ (k : Nat) σ' H', lo + (k : Int) < n → Pv k σ' H' → tu { D with nx := Pv (k + 1), ct := Pv (k + 1), bk := tz D } (σ'.set j (some (.int (lo + (k : Int))))) H') (hd : ∀ σ' H', Pv (n - lo).toNat σ' H' → tz D σ' H') : tSeq (tFor (iRng2 ts) (gName j) tu) tz D σ H :=
  s_forR2 (D := { D with nx := tz D }) w h hn Pv h0 hs hd
theorem walkE {a : Addr} {D : Ends} {i j : Nat} (Pv : Nat → L2.St → Hp → Prop) (h0 : Pv 0 σ H) (hw : ∀ k σ' H', Pv k σ' H' → Td K H' (.ref a) (.tuple ds))
    (hs : ∀ k d v σ' H' H2, ds[k]? = some d → Td K H2 v d → Pv k σ' H' → Same H' H2 → tu { D with nx := Pv (k + 1), ct := Pv (k + 1), bk := D.nx } ((σ'.set i (some (.int (k : Nat)))).set j (some v)) H2) (hd : ∀ σ' H', Pv ds.length σ' H' → D.nx σ' H') : Turns (Itet K a) (gTup K 2 (gCons (gName i) (gCons (gName j) gNil))) tu D σ H :=
  for_it (walk_E told_T) Pv h0 (fun k σ' H' _ p => hw k σ' H' p) (fun k v σ' H1 H' _ p ⟨T, x, ev, nT, eH, _, d, at_, t⟩ => by
    subst ev eH
    exact ⟨T, _, rfl, SqT.of upd_same, rfl, .int (k : Nat), [x], rfl, x, [], rfl, rfl, hs k d x σ' H1 _ at_ (Td.mono (.of (same_new nT)) _ _ t) p (same_new nT)⟩) hd
theorem q_forE {i j : Nat} (w : Wd K C S G H0 H σ Γ) (h : EvC K C tl σ H (.d (.tuple ds))) (Pv : Addr → Nat → L2.St → Hp → Prop) (h0 : ∀ a H1, Wd K C S ((.ref a, .tuple ds) :: G) H0 H1 σ Γ → Pv a 0 σ H1)
    (hw : ∀ a k σ' H', Pv a k σ' H' → Td K H' (.ref a) (.tuple ds))
    (hs : ∀ a k d v σ' H' H2, ds[k]? = some d → Td K H2 v d → Pv a k σ' H' → Same H' H2 → tu { D with nx := Pv a (k + 1), ct := Pv a (k + 1), bk := tz D } ((σ'.set i (some (.int (k : Nat)))).set j (some v)) H2) (hd : ∀ a σ' H', Pv a ds.length σ' H' → tz D σ' H') :
    tSeq (tFor (iEnumT K (tCons tl tNil)) (gTup K 2 (gCons (gName i) (gCons (gName j) gNil))) tu) tz D σ H :=
  s_seq (h H (Same.refl H) _ fun v H1 e a => by
    obtain ⟨p, xs, rfl, s, t⟩ := Td.tup_of a
    exact ⟨p, xs, rfl, s.sq, walkE (D := { D with nx := tz D }) (Pv p) (h0 p H1 ((w.mono e).ghost a)) (hw p) (hs p) (hd p)⟩)
theorem s_forE {i j : Nat} (w : Wd K C S G H0 H σ Γ) (h : EvC K C tl σ H (.d (.tuple ds))) (Pv : Addr → Nat → L2.St → Hp → Prop) (h0 : ∀ a H1, Wd K C S ((.ref a, .tuple ds) :: G) H0 H1 σ Γ → Pv a 0 σ H1)
    (hw : ∀ a k σ' H', Pv a k σ' H' → Td K H' (.ref a) (.tuple ds))
    (hs : ∀ a k d v σ' H' H2, ds[k]? = some d → Td K H2 v d → Pv a k σ' H' → Same H' H2 → tu { D with nx := Pv a (k + 1), ct := Pv a (k + 1), bk := D.nx } ((σ'.set i (some (.int (k : Nat)))).set j (some v)) H2) (hd : ∀ a σ' H', Pv a ds.length σ' H' → D.nx σ' H') :
    tFor (iEnumT K (tCons tl tNil)) (gTup K 2 (gCons (gName i) (gCons (gName j) gNil))) tu D σ H :=
  h H (Same.refl H) _ fun v H1 e a => by
    obtain ⟨p, xs, rfl, s, t⟩ := Td.tup_of a
    exact ⟨p, xs, rfl, s.sq, walkE (Pv p) (h0 p H1 ((w.mono e).ghost a)) (hw p) (hs p) (hd p)⟩
theorem pi_enumTK (K : PySem.W.Frag) {X : Cx} {e : Expr} {ta : TA} {p pos tpos : Pos} {elts : List Expr} {kk : Nat} (hg : Gl X "enumerate") (hm : X.mg "enumerate" = none) (ha : PA X [e] ta) (hK : X.K = K := by rfl) (hs : starEach [e] X.env = [(false, eval e X.env)] := by rfl) :
    PI X (.Tuple elts kk tpos) (.Call (.Name "enumerate" p) [e] [] pos) (iEnumT K ta) := hK ▸ pi_enumT hg hm ha hs
theorem pg_tupK (K : PySem.W.Frag) {X : Cx} {pos : Pos} {es : List Expr} {k : Nat} {t : TGs} {n : Nat} (hc : X.calm = true) (h : PGs X es t) (hK : X.K = K := by rfl)
    (hn : (assignEach es X.env).length = n := by rfl) (hst : (assignEach es X.env).findIdx? (·.1) = none := by rfl) : PG X (.Tuple es k pos) (gTup K n t) := hK ▸ pg_tup hc h hn hst
theorem ev_allK {α : Type} {f : α → Bool} {l : List α} (h : EvN K C te σ H (kept (fun _ => true) (fun x => PyData.bool (f x)) l)) : EvC K C (tCB (rAll K) (tCons te tNil)) σ H (.d (.bool (l.all f))) := by
  have e : kept (fun _ => true) (fun x => PyData.bool (f x)) l = (l.map f).map .bool := by
    rw [kept_all, List.map_map]
    rfl
  rw [e] at h
  have z := ev_allN h
  rw [List.all_map] at z
  exact z
end Pt
namespace Pt
open PySem PySem.Spec PyProof.Rows L2
variable {K : PySem.W.Frag} {C : Addr} {H H' H1 H2 : Hp} {v w x y : V} {vs : List V} {d e : PyData} {ds es : List PyData}
variable {S : List Addr} {G : List (V × PyData)} {H0 : Hp} {σ : L2.St} {Γ : List Ct} {i j k : Nat} {c : Ct} {te ta tb tc tl : TE} {t u : TT}
variable {D : Ends} {tu tw tz : TS}
theorem shaped_list (l : List Int) : SeqAt.shaped (.list (iL l)) = true := by
  show ((PyData.list (iL l)).canLay0 && decide ((PyData.list (iL l)).depth ≤ 64)) = true
  have h1 := depth_iL l
  rw [Bool.and_eq_true]
  refine ⟨?_, decide_eq_true ?_⟩
  · simp only [PyData.canLay0]; exact lay_iL l
  · simp only [PyData.depth]; omega
end Pt
namespace Pt
open PySem PySem.Spec PyProof.Rows L2
variable {K : PySem.W.Frag} {C : Addr} {H H' H1 H2 : Hp} {v w x y : V} {vs : List V} {d e : PyData} {ds es : List PyData}
variable {S : List Addr} {G : List (V × PyData)} {H0 : Hp} {σ : L2.St} {Γ : List Ct} {i j k : Nat} {c : Ct} {te ta tb tc tl : TE} {t u : TT}
variable {D : Ends} {tu tw tz : TS}
theorem en_lcN {α : Type} {l : List α} {mk : α → PyData} (w : Wd K C S G H0 H σ Γ) (hl : EvN K C tl σ H (l.map mk)) (f : α → Bool) (g : α → PyData) (hz : l.length < 10000000)
    (ht : ∀ x ∈ l, ∀ σ1 H1, Wd K C S G H0 H1 σ1 ((Γ.set j .u).set j (.d (mk x))) → EvT t σ1 H1 (f x)) (he : ∀ x ∈ l, ∀ σ1 H1, Wd K C S G H0 H1 σ1 ((Γ.set j .u).set j (.d (mk x))) → f x = true → EvC K C te σ1 H1 (.d (g x))) :
    EvN K C (tLc (iList K tl) (gName j) t te [j]) σ H (kept f g l) := fun H1 e1 Q q => hl H1 e1 _ fun p H2 hp e2 a => by
  have z : EvC K C (tC (.ref p)) σ H2 (.s p (l.map mk)) := fun H3 e3 Q q => q _ H3 (Same.refl H3) (CtAt.mono e3 (show CtAt K C H2 (.ref p) (.s p (l.map mk)) from a))
  exact en_lcS (te := te) (t := t) (w.mono (e1.trans e2)) z f g hz ht he H2 (Same.refl H2) Q fun p' H3 hp' e3 a3 => q p' H3 (e2.free hp') (e2.trans e3) a3
theorem cut_to {α : Type} (l : List α) (k : Nat) : cutD l none (some (k : Int)) = l.take k := by
  unfold cutD
  rw [HT.sIx_none, HT.sIx_nat, List.drop_zero, Nat.sub_zero]
  rcases Nat.le_total k l.length with h | h
  · rw [Nat.min_eq_left h]
  · rw [Nat.min_eq_right h, List.take_of_length_le h, List.take_length]
theorem cut_from {α : Type} (l : List α) (k : Nat) : cutD l (some (k : Int)) none = l.drop k := by
  unfold cutD
  rw [HT.sIx_none, HT.sIx_nat]
  rcases Nat.le_total k l.length with h | h
  · rw [Nat.min_eq_left h, List.take_of_length_le (by simp)]
  · rw [Nat.min_eq_right h, List.drop_length, List.drop_of_length_le h, List.take_nil]
theorem en_cast (h : EvN K C te σ H ds) (e : ds = es) : EvN K C te σ H es := e ▸ h
theorem s_asgD (w : Wd K C S G H0 H σ Γ) (h : EvC K C te σ H (.d d)) (k : ∀ σ1 H1, Wd K C S G H0 H1 σ1 (Γ.set i (.d d)) → D.nx σ1 H1) : tAsg te (gName i) D σ H := s_asg w h (fun _ σ1 H1 _ w1 => k σ1 H1 w1)
theorem walkS {a : Addr} {g : TG} {D : Ends} (Pv : Nat → L2.St → Hp → Prop) (h0 : Pv 0 σ H) (hw : ∀ k σ' H', Pv k σ' H' → ∃ xs, SqL K H' a xs ∧ TdAll K H' xs ds)
    (hs : ∀ k d v σ' H', ds[k]? = some d → Td K H' v d → Pv k σ' H' → g v σ' H' fun σ2 H2 => tu { D with nx := Pv (k + 1), ct := Pv (k + 1), bk := D.nx } σ2 H2) (hd : ∀ σ' H', Pv ds.length σ' H' → D.nx σ' H') : Turns (Itl K a) g tu D σ H := turns_nth told_L Pv h0 hw hs hd
theorem q_forZ {g : TG} {p : Addr} (w : Wd K C S G H0 H σ Γ) (h : EvC K C tl σ H (.z p ds)) (Pv : Nat → L2.St → Hp → Prop) (h0 : ∀ H1, Wd K C S G H0 H1 σ Γ → Pv 0 σ H1)
    (hw : ∀ k σ' H', Pv k σ' H' → ∃ xs, SqL K H' p xs ∧ TdAll K H' xs ds)
    (hs : ∀ k d v σ' H', ds[k]? = some d → Td K H' v d → Pv k σ' H' → g v σ' H' fun σ2 H2 => tu { D with nx := Pv (k + 1), ct := Pv (k + 1), bk := tz D } σ2 H2) (hd : ∀ σ' H', Pv ds.length σ' H' → tz D σ' H') : tSeq (tFor (iList K tl) g tu) tz D σ H :=
  s_seq (h H (Same.refl H) _ fun v H1 e a => by
    obtain ⟨rfl, xs, s, t⟩ := a
    exact ⟨p, rfl, ⟨xs, s.sq⟩, walkS (D := { D with nx := tz D }) Pv (h0 H1 (w.mono e)) hw hs hd⟩)
def Src (H : Hp) (p c : Addr) (s k : Int) (cells : List Int) : Prop := H p = some (.lst [.int s, .ref c, .int k]) ∧ H c = some (.lst (cells.map V.int)) ∧ p ≠ c ∧ cells.length ≤ 63
theorem Src.mono {p c : Addr} {s k : Int} {cells : List Int} (h : Src H p c s k cells) (e : Same H H') : Src H' p c s k cells := ⟨e _ _ h.1, e _ _ h.2.1, h.2.2⟩
theorem Src.ct {p c : Addr} {s k : Int} {cells : List Int} (h : Src H p c s k cells) : CtAt K C H (.ref p) (.h p c) := ⟨rfl, h.2.2.1, s, k, cells, h.1, h.2.1, h.2.2.2⟩
theorem src_ix {p c : Addr} {s k : Int} {cells : List Int} {u : V} {n : Nat} (h : Src H p c s k cells) (hi : σ[i]? = some (some (.ref p))) (hn : [V.int s, .ref c, .int k][n]? = some u) {d' : Ct} (hc : ∀ H1, Same H H1 → CtAt K C H1 u d') : EvC K C (tOp (rIx K) (tVar i) (tC (.int (n : Nat)))) σ H d' := fun H1 e1 Q q =>
  ⟨.ref p, hi, .inl ⟨p, _, (n : Nat), u, rfl, rfl, SqL.of (e1 _ _ h.1), atI_nat hn, q _ H1 (Same.refl H1) (hc H1 e1)⟩⟩
theorem src_s {p c : Addr} {s k : Int} {cells : List Int} (h : Src H p c s k cells) (hi : σ[i]? = some (some (.ref p))) : EvC K C (tOp (rIx K) (tVar i) (tC (.int 0))) σ H (.d (.int s)) := src_ix (n := 0) h hi rfl fun _ _ => .int s
theorem src_k {p c : Addr} {s k : Int} {cells : List Int} (h : Src H p c s k cells) (hi : σ[i]? = some (some (.ref p))) : EvC K C (tOp (rIx K) (tVar i) (tC (.int 2))) σ H (.d (.int k)) := src_ix (n := 2) h hi rfl fun _ _ => .int k
theorem src_c {p c : Addr} {s k : Int} {cells : List Int} (h : Src H p c s k cells) (hi : σ[i]? = some (some (.ref p))) : EvC K C (tOp (rIx K) (tVar i) (tC (.int 1))) σ H (.l c (iL cells)) := src_ix (n := 1) h hi rfl fun H1 e1 => ⟨rfl, _, e1 _ _ h.2.1, TdAll.of_iL cells⟩
def spH (K : PySem.W.Frag) (C : Addr) : Sp := fun vs H Q _ => ∃ (p c : Addr) (b : Int), vs = [.ref p, .int b] ∧ CtAt K C H (.ref p) (.h p c) ∧ 1 ≤ b ∧ b ≤ 1000000 ∧
  ∀ (r : Int) H', 0 ≤ r → r < b → Fr [p, c] H H' → CtAt K C H' (.ref p) (.h p c) → Q (.int r) H'
def spM (K : PySem.W.Frag) (C : Addr) : Sp := fun vs H Q _ => ∃ (z : Addr) (cells : List Int) (v1 : V) (k : Int), vs = [v1, .int k] ∧ CtAt K C H v1 (.z z (iL cells)) ∧ cells.length ≤ 63 ∧
  ∀ p c H', H p = none → H c = none → Same H H' → CtAt K C H' (.ref p) (.h p c) → Q (.ref p) H'
theorem ev_at {k : Int} (hi : σ[i]? = some (some (.int k))) : EvC K C (tVar i) σ H (.d (.int k)) := fun H1 _ Q q => ⟨.int k, hi, q _ H1 (Same.refl H1) (.int k)⟩
theorem ev_lstAt {c : Addr} {cells : List Int} (hi : σ[i]? = some (some (.ref c))) (h : H c = some (.lst (cells.map V.int))) : EvC K C (tVar i) σ H (.l c (iL cells)) := fun H1 e Q q => ⟨.ref c, hi, q _ H1 (Same.refl H1) ⟨rfl, _, e _ _ h, TdAll.of_iL cells⟩⟩
theorem Fr.updIn {T : List Addr} {p : Addr} {o : HO} (h : p ∈ T) : Fr T H (L2.upd H p o) := fun a u r n => by
  have z : a ≠ p := fun z => n (by rw [z]; exact h)
  rw [L2.upd_ne z]
  exact r
theorem ne_of_none' {a b : Addr} {o : HO} (h : H a = none) (h' : H b = some o) : a ≠ b := (ne_of_none h' h).symm
end Pt
namespace Pt
open PySem PySem.Spec PyProof.Rows L2
variable {K : PySem.W.Frag} {C : Addr} {H H' H1 H2 : Hp} {v w x y : V} {vs : List V} {d e : PyData} {ds es : List PyData}
variable {S : List Addr} {G : List (V × PyData)} {H0 : Hp} {σ : L2.St} {Γ : List Ct} {i j k : Nat} {c : Ct} {te ta tb tc tl : TE} {t u : TT}
variable {D : Ends} {tu tw tz : TS} {p q : Addr} {b : Int} {E : XK}
theorem dr_next (w : Wd K C S G H0 H σ Γ) (hi : Γ[i]? = some (.h p q)) (hb : EvC K C tb σ H (.d (.int b))) (h1 : 1 ≤ b) (h2 : b ≤ 1000000) {Q : VK} (k : ∀ (r : Int) H', 0 ≤ r → r < b → Wd K C S G H0 H' σ Γ → Q (.int r) H') :
    tCall (spH K C) [] E (tCons (tVar i) (tCons tb tNil)) σ H Q := by
  obtain ⟨v, e, a⟩ := w.get hi
  obtain ⟨rfl, a'⟩ := id a
  refine ⟨.ref p, e, hb H (Same.refl H) _ fun y H2 e2 b2 => ⟨p, q, b, ?_, CtAt.mono e2 a, h1, h2, fun r H' r0 r1 f ct => k r H' r0 r1 ((w.mono e2).drawn hi f ct)⟩⟩
  rw [Td.int_of b2]
  rfl
def DrT (K : PySem.W.Frag) (C : Addr) (S : List Addr) (G : List (V × PyData)) (H0 : Hp) (σ : L2.St) (Γ : List Ct) (t : TT) : Prop := ∀ H, Wd K C S G H0 H σ Γ → ∀ Q : Bool → Hp → Prop, (∀ b H', Wd K C S G H0 H' σ Γ → Q b H') → t σ H Q
theorem dt_of {b : Bool} (h : ∀ H, Wd K C S G H0 H σ Γ → EvT t σ H b) : DrT K C S G H0 σ Γ t := fun H w Q q => h H w H (Same.refl H) _ fun H2 e2 => q b H2 (w.mono e2)
theorem dt_or (h1 : DrT K C S G H0 σ Γ t) (h2 : DrT K C S G H0 σ Γ u) : DrT K C S G H0 σ Γ (tOr t u) := fun H w Q q => h1 H w _ fun b H2 w2 => by
  cases b with
  | true => exact q true H2 w2
  | false => exact h2 H2 w2 Q q
theorem dt_and (h1 : DrT K C S G H0 σ Γ t) (h2 : DrT K C S G H0 σ Γ u) : DrT K C S G H0 σ Γ (tAnd t u) := fun H w Q q => h1 H w _ fun b H2 w2 => by
  cases b with
  | true => exact h2 H2 w2 Q q
  | false => exact q false H2 w2
theorem dt_eqN {m : Int} (hi : Γ[i]? = some (.h p q)) (h1 : 1 ≤ b) (h2 : b ≤ 1000000) : DrT K C S G H0 σ Γ (tTest (tOp (rEqD K) (tCall (spH K C) [] E (tCons (tVar i) (tCons (tC (.int b)) tNil))) (tC (.int m)))) := fun H w Q k =>
  dr_next w hi ev_int h1 h2 fun r H' r0 r1 w1 => ⟨.int r, .int m, .int r, .int m, shaped_int r, shaped_int m, _, rfl, k _ H' w1⟩
theorem s_ifD (w : Wd K C S G H0 H σ Γ) (h : DrT K C S G H0 σ Γ t) (h1 : ∀ H1, Wd K C S G H0 H1 σ Γ → tu D σ H1) (h2 : ∀ H1, Wd K C S G H0 H1 σ Γ → tw D σ H1) : tIfS t tu tw D σ H := h H w _ fun b H1 w1 => by
  cases b with
  | true => exact h1 H1 w1
  | false => exact h2 H1 w1
def spDr (K : PySem.W.Frag) (C : Addr) (A : List Ag → Prop) (R : List Ag → PyData → Prop) : Sp := fun vs H Q _ => ∃ (p c : Addr) (ws : List V) (as : List Ag), vs = .ref p :: ws ∧ CtAt K C H (.ref p) (.h p c) ∧ Args K C H ws as ∧ A as ∧
  ∀ v d H', R as d → Fr [p, c] H H' → CtAt K C H' (.ref p) (.h p c) → Td K H' v d → Q v H'
theorem dr_call {A : List Ag → Prop} {R : List Ag → PyData → Prop} {as : List Ag} {ts : TA} (w : Wd K C S G H0 H σ Γ) (hi : Γ[i]? = some (.h p q)) (hs : EvA K C ts σ H as) (hA : A as) {Q : VK} (k : ∀ v d H', R as d → Wd K C S G H0 H' σ Γ → Td K H' v d → Q v H') :
    tCall (spDr K C A R) [] E (tCons (tVar i) ts) σ H Q := by
  obtain ⟨v, e, a⟩ := w.get hi
  obtain ⟨rfl, a'⟩ := id a
  exact ⟨.ref p, e, hs H (Same.refl H) _ fun ws H2 e2 b2 => ⟨p, q, ws, as, by rw [List.append_nil], CtAt.mono e2 a, b2, hA, fun v d H' r f ct td => k v d H' r ((w.mono e2).drawn hi f ct) td⟩⟩
theorem q_drawA {A : List Ag → Prop} {R : List Ag → PyData → Prop} {as : List Ag} {ts : TA} (w : Wd K C S G H0 H σ Γ) (hi : Γ[i]? = some (.h p q)) (hs : EvA K C ts σ H as) (hA : A as) (k : ∀ d σ1 H1, R as d → Wd K C S G H0 H1 σ1 (Γ.set j (.d d)) → tz D σ1 H1) :
    tSeq (tAsg (tCall (spDr K C A R) [] E (tCons (tVar i) ts)) (gName j)) tz D σ H :=
  dr_call w hi hs hA fun v d H' r w1 td => k d _ H' r (w1.set j td)
theorem s_retDr {R : List Ag → PyData → Prop} {as : List Ag} {Q : VK} {nx : L2.St → Hp → Prop} {bk ct} (w : Wd K C [p, q] G H0 H σ Γ) (hi : Γ[i]? = some (.h p q)) (k : ∀ v d H', R as d → Fr [p, q] H0 H' → CtAt K C H' (.ref p) (.h p q) → Td K H' v d → Q v H') (h : EvC K C te σ H (.d d)) (hR : R as d) : tRet te { nx := nx, rt := Q, bk := bk, ct := ct } σ H :=
  s_ret w h fun v H1 w1 a => by
    obtain ⟨v', _, a'⟩ := w1.get hi
    obtain ⟨rfl, _⟩ := id a'
    exact k v d H1 hR w1.fr a' a
theorem q_parDr {m : Nat} (w : Wd K C S G H0 H σ Γ) (hi : Γ[m]? = some (.h p q)) (h1 : 1 ≤ b) (h2 : b ≤ 1000000) (k : ∀ (r : Int) l σ1 H1, 0 ≤ r → r < b → Wd K C S G H0 H1 σ1 ((Γ.set i (.d (.int r))).set j (.l l [])) → tz D σ1 H1) :
    tSeq (tPar i j (tCons (tCall (spH K C) [] E (tCons (tVar m) (tCons (tC (.int b)) tNil))) (tCons (tLst tNil) tNil))) tz D σ H :=
  dr_next w hi ev_int h1 h2 fun r H1 r0 r1 w1 => (en_lst ed_nil : EvN K C (tLst tNil) σ H1 []) H1 (Same.refl H1) _ fun l H2 hl e2 a2 => ⟨.int r, .ref l, rfl, k r l _ H2 r0 r1 ((w1.set i (v := .int r) (c := .d (.int r)) (Td.int r)).setN j e2 hl a2)⟩
end Pt
namespace Pt
open PySem PySem.Spec PyProof.Rows L2
variable {K : PySem.W.Frag} {C : Addr} {H H' H1 H2 : Hp} {v w x y : V} {vs : List V} {d e : PyData} {ds es : List PyData}
def rowK (l : List Int) : List Key := l.map .inl
theorem rowK_inj {l m : List Int} (h : rowK l = rowK m) : l = m := by
  induction l generalizing m with
  | nil => cases m with
    | nil => rfl
    | cons => simp [rowK] at h
  | cons a l ih => cases m with
    | nil => simp [rowK] at h
    | cons b m =>
      simp only [rowK, List.map_cons, List.cons.injEq] at h
      obtain ⟨h1, h2⟩ := h
      rw [Sum.inl.inj h1, ih h2]
abbrev En := List Int × Int × Addr
abbrev tk (P : Program) (w : World) := tupleKind (mixKind P w)
def Ents (es : List En) (xs : List (List Key × Addr × Value)) : Prop := Paired (fun (e : En) (q : List Key × Addr × Value) => q.1 = rowK e.1 ∧ q.2.1 = e.2.2 ∧ RelV (.int e.2.1) q.2.2) es xs
def lookE (es : List En) (k : List Int) : Option Int := (es.find? fun e => decide (e.1 = k)).map (·.2.1)
theorem Ents.val {es : List En} {xs : List (List Key × Addr × Value)} (r : Ents es xs) (k : List Int) : RelO ((lookE es k).map V.int) ((atKey xs (rowK k)).map (·.2)) := by
  unfold Ents at r
  induction r with
  | nil => exact True.intro
  | @cons p q ps qs h t ih =>
    obtain ⟨h1, _, h2⟩ := h
    by_cases e : p.1 = k
    · have e' : q.1 = rowK k := by rw [h1, e]
      have a : lookE (p :: ps) k = some p.2.1 := by simp [lookE, List.find?_cons, e]
      have b : atKey (q :: qs) (rowK k) = some q.2 := by simp [atKey, List.find?_cons, e']
      rw [a, b]; exact h2
    · have e' : ¬ q.1 = rowK k := fun z => e (rowK_inj (h1.symm.trans z))
      have a : lookE (p :: ps) k = lookE ps k := by simp [lookE, List.find?_cons, e]
      have b : atKey (q :: qs) (rowK k) = atKey qs (rowK k) := by simp [atKey, List.find?_cons, e']
      rw [a, b]; exact ih
theorem Ents.len {es : List En} {xs : List (List Key × Addr × Value)} (r : Ents es xs) : es.length = xs.length := Paired.length r
section
variable {X : Cx} {pins : List (Addr × Obj)} {σ : L2.St} {s : Shared} {a b : Addr} {A : Around} {E : Value → Shared → Prop}
end
section
variable {X : Cx} {o i e value : Expr} {pos pos' : Pos} {td ty tv : TE}
theorem Ents.snoc {es : List En} {xs : List (List Key × Addr × Value)} (r : Ents es xs) {k : List Int} {m : Int} {b : Addr} {u : Value} (hu : RelV (.int m) u) : Ents (es ++ [(k, m, b)]) (xs ++ [(rowK k, b, u)]) := Paired.snoc r ⟨rfl, rfl, hu⟩
end
end Pt
namespace Pt
open PySem PySem.Spec PyProof.Rows L2
variable {K : PySem.W.Frag} {C : Addr} {H H' H1 H2 : Hp} {v w x y : V} {vs : List V} {d e : PyData} {ds es : List PyData}
variable {S : List Addr} {G : List (V × PyData)} {H0 : Hp} {σ : L2.St} {Γ : List Ct} {i j k : Nat} {c : Ct} {te ta tb tc tl ty td tv : TE} {t u : TT}
variable {D : Ends} {tu tw tz : TS} {p q : Addr} {P : Program} {W : World}
theorem row_of {b : V} {r : List Int} (h : Td K H b (row r)) : ∃ a, b = .ref a ∧ SqF H a (r.map V.int) := by
  obtain ⟨a, xs, rfl, s, t⟩ := Td.tup_of h
  rw [t.iL_of] at s
  exact ⟨a, rfl, s⟩
theorem depth_rows : ∀ L : List (List Int), PyData.depthAll (L.map row) ≤ 3
  | [] => by simp [PyData.depthAll]
  | l :: L => by
    have h1 := depth_rows L
    have h2 := depth_iL l
    simp only [List.map_cons, PyData.depthAll, PyData.depth, row] at h1 ⊢
    omega
def allRows (n : Nat) : Nat → List (List Int)
  | 0 => [[]]
  | k + 1 => ((List.range n).map fun a : Nat => (allRows n k).map fun l => (a : Int) :: l).flatten
theorem allRows_len (n : Nat) : ∀ k, (allRows n k).length = n ^ k
  | 0 => rfl
  | k + 1 => by
    unfold allRows
    rw [List.length_flatten, List.map_map]
    have e : (List.range n).map (List.length ∘ fun a : Nat => (allRows n k).map fun l => (a : Int) :: l) = List.replicate n (n ^ k) := by
      refine List.eq_replicate_iff.mpr ⟨by simp, fun x hx => ?_⟩
      obtain ⟨a, _, rfl⟩ := List.mem_map.mp hx
      show (List.map _ _).length = _
      rw [List.length_map, allRows_len n k]
    rw [e, List.sum_replicate_nat, Nat.pow_succ, Nat.mul_comm]
theorem mem_allRows {n : Nat} : ∀ {k : Nat} {l : List Int}, l.length = k → (∀ x ∈ l, 0 ≤ x ∧ x < (n : Int)) → l ∈ allRows n k
  | 0, l, hl, _ => by
    have : l = [] := List.length_eq_zero_iff.mp hl
    subst this
    exact List.mem_singleton.mpr rfl
  | k + 1, [], hl, _ => by cases hl
  | k + 1, x :: l, hl, h => by
    have hx := h x List.mem_cons_self
    unfold allRows
    refine List.mem_flatten.mpr ⟨_, List.mem_map.mpr ⟨x.toNat, List.mem_range.mpr (by omega), rfl⟩, List.mem_map.mpr ⟨l, mem_allRows (Nat.succ.inj hl) fun y m => h y (List.mem_cons_of_mem _ m), by rw [Int.toNat_of_nonneg hx.1]⟩⟩
theorem nodup_le {α : Type} [DecidableEq α] : ∀ (l U : List α), l.Nodup → (∀ x ∈ l, x ∈ U) → l.length ≤ U.length
  | [], _, _, _ => Nat.zero_le _
  | x :: l, U, h, hs => by
    have hx := hs x List.mem_cons_self
    have hn := List.nodup_cons.mp h
    have z := nodup_le l (U.erase x) hn.2 fun y m => (List.mem_erase_of_ne (fun e => hn.1 (by rw [← e]; exact m))).mpr (hs y (List.mem_cons_of_mem _ m))
    rw [List.length_erase_of_mem hx] at z
    have := List.length_pos_of_mem hx
    rw [List.length_cons]
    omega
end Pt
namespace Pt
open PySem PySem.Spec PyProof.Rows L2
variable {K : PySem.W.Frag} {C : Addr} {H H' H1 H2 : Hp} {v w x y : V} {vs : List V} {d e : PyData} {ds es : List PyData}
variable {S : List Addr} {G : List (V × PyData)} {H0 : Hp} {σ : L2.St} {Γ : List Ct} {i j k : Nat} {c : Ct} {te ta tb tc tl ty td tv : TE} {t u : TT}
variable {D : Ends} {tu tw tz : TS} {p q : Addr} {b : Int} {E : XK}
theorem q_mix {z : Addr} {cells : List Int} (w : Wd K C S G H0 H σ Γ) (hi : Γ[i]? = some (.z z (iL cells))) (hl : cells.length ≤ 63) (k : ∀ p c σ1 H1, Wd K C S G H0 H1 σ1 (Γ.set j (.h p c)) → tz D σ1 H1) :
    tSeq (tAsg (tCall (spM K C) [] E (tCons (tVar i) (tCons (tC (.int b)) tNil))) (gName j)) tz D σ H := by
  obtain ⟨v, e, a⟩ := w.get hi
  refine ⟨v, e, z, cells, v, b, rfl, a, hl, fun p c H1 hp hc e1 ct => k p c _ H1 ((w.mono e1).setC j ct (fun _ x m => .inr ?_) fun j' c' x _ h m m' => ?_)⟩
  · have m : x = p ∨ x = c := by simpa [Ct.adr] using m
    rcases m with rfl | rfl
    · exact w.fresh0 hp
    · exact w.fresh0 hc
  · have m : x = p ∨ x = c := by simpa [Ct.adr] using m
    rcases m with rfl | rfl
    · exact w.fresh hp h m'
    · exact w.fresh hc h m'
theorem q_drawAdd {a : Int} (w : Wd K C S G H0 H σ Γ) (hi : Γ[i]? = some (.h p q)) (h1 : 1 ≤ b) (h2 : b ≤ 1000000) (k : ∀ (r : Int) σ1 H1, 0 ≤ r → r < b → Wd K C S G H0 H1 σ1 (Γ.set j (.d (.int (a + r)))) → tz D σ1 H1) :
    tSeq (tAsg (tOp (rAddU K) (tC (.int a)) (tCall (spH K C) [] E (tCons (tVar i) (tCons (tC (.int b)) tNil)))) (gName j)) tz D σ H :=
  dr_next w hi ev_int h1 h2 fun r H1 r0 r1 w1 => .inl ⟨a, r, rfl, rfl, k r _ H1 r0 r1 (w1.set j (v := .int (a + r)) (c := .d (.int (a + r))) (Td.int _))⟩
end Pt
namespace Pt
open PySem PySem.Spec PyProof.Rows L2
variable {K : PySem.W.Frag} {C : Addr} {H H' H1 H2 : Hp} {v w x y : V} {vs : List V} {d e : PyData} {ds es : List PyData}
variable {S : List Addr} {G : List (V × PyData)} {H0 : Hp} {σ : L2.St} {Γ : List Ct} {i j k : Nat} {c : Ct} {te ta tb tc tl ty td tv : TE} {t u : TT}
variable {D : Ends} {tu tw tz : TS} {p q : Addr} {b : Int} {E : XK}
theorem s_retLQ {Q : VK} {nx : L2.St → Hp → Prop} {bk ct} (w : Wd K C [] G H0 H σ Γ) (q : ∀ p H', H0 p = none → Same H0 H' → CtAt K C H' (.ref p) (.l p ds) → Q (.ref p) H') (hi : Γ[i]? = some (.l p ds)) : tRet (tVar i) { nx := nx, rt := Q, bk := bk, ct := ct } σ H := by
  obtain ⟨v, e, a⟩ := w.get hi
  obtain ⟨rfl, _⟩ := id a
  exact ⟨.ref p, e, q p H ((w.wr i _ hi rfl p (by simp [Ct.adr])).elim (fun z => by simp at z) id) w.fr0 a⟩
end Pt
namespace Pt
open PySem PySem.Spec PyProof.Rows L2
variable {K : PySem.W.Frag} {C : Addr} {H H' H1 H2 : Hp} {v w x y : V} {vs : List V} {d e : PyData} {ds es : List PyData}
abbrev sortedD (ds : List PyData) : List PyData := ds.mergeSort (PySem.W.dataLe false id)
theorem each_of : ∀ {xs : List V} {its : List Value} {ds : List PyData}, Vals xs its → TdAll K H xs ds → PySem.W.EachIs (fun v d => ∃ x, RelV x v ∧ Td K H x d) its ds
  | _, _, _, .nil, .nil => .nil
  | _, _, _, .cons r rs, .cons t ts => .cons ⟨_, r, t⟩ (each_of rs ts)
theorem each_back : ∀ {out : List Value} {ds : List PyData}, PySem.W.EachIs (fun v d => ∃ x, RelV x v ∧ Td K H x d) out ds → ∃ ys, Vals ys out ∧ TdAll K H ys ds
  | _, _, .nil => ⟨[], .nil, .nil⟩
  | _, _, .cons ⟨x, r, t⟩ e => let ⟨ys, rs, ts⟩ := each_back e; ⟨x :: ys, .cons r rs, .cons t ts⟩
theorem vals_get : ∀ {xs : List V} {its : List Value} {i : Nat} {v : Value}, Vals xs its → its[i]? = some v → ∃ x, xs[i]? = some x ∧ RelV x v
  | _, _, _, _, .nil, e => by simp at e
  | _, _, 0, _, .cons r _, e => by simp at e; subst e; exact ⟨_, rfl, r⟩
  | _, _, i + 1, _, .cons _ t, e => by
    obtain ⟨x, h1, h2⟩ := vals_get (i := i) t (by simpa using e)
    exact ⟨x, by simpa using h1, h2⟩
section
open PySem.W PyProof.Rows
def Can (ds : List PyData) : Prop := ∀ (P : Program) (w : World) (A : Around) (s : Shared) (vs : List Value), EachIs (fun v d => ∃ as, Reads s.heap v d as) vs ds → (∀ d ∈ ds, A.units + d.depth < cLine) → SortsAt P w A s (dataKind s.heap ds) vs
theorem keys_told {h : Heap} {vs : List Value} (e : EachIs (fun v d => ∃ as, Reads h v d as) vs ds) (al : AllAlike ds) (v : Value) (m : v ∈ vs) : ∃ k, (dataKind h ds).keyOf v = some k :=
  let ⟨d, md, as, r⟩ := e.left v m
  ⟨keyToks d, dataKind_some al md r⟩
end
section
variable {X : Cx} {pins : List (Addr × Obj)} {σ : L2.St} {s : Shared}
theorem sorted_can {Q : VK} {a : Addr} {xs : List V} (hu : X.A.units + 12 < cLine) (I : Inv X pins σ H s) (lst : SqL X.K H a xs) (td : TdAll X.K H xs ds) (al : PySem.W.AllAlike ds) (can : Can ds) (deep : ∀ d ∈ ds, d.depth ≤ 8) (q : ∀ (ys : List V) (p : Addr), TdAll X.K H ys (sortedD ds) → H p = none → Q (.ref p) (L2.upd H p (.lst ys))) :
    wpAny (model X.prog X.w) X.A (call (.builtin "sorted") [.ref a]) (EP X pins σ Q) X.xe s := by
  obtain ⟨its, rv, here, few⟩ := I.list lst
  rw [← List.map_id ds] at al can
  have same : its.length = xs.length := rv.length.symm
  have reads : PySem.W.EachIs (fun v d => ∃ as, Reads (PySem.W.sortingHeap (PySem.W.copyHeap s.heap its) (s.heap.objs.size + 1) its) v (id d) as) its ds := (each_of rv td).mono fun v d ⟨x, rx, t⟩ =>
    let ⟨as, r⟩ := Dp.reads I d x v (Td.dp _ _ t) rx
    ⟨as, PyProof.Rows.Reads.keeps (fun _ _ => PySem.W.sorting_copy_old) r⟩
  obtain ⟨ys, ry, ty⟩ := each_back (PySem.W.sortVals_data false (each_of rv td) reads al)
  obtain ⟨ep, at1⟩ := PyProof.Rows.sortedAll_at s.heap its (PySem.W.sortVals (PySem.W.dataKind _ (ds.map id)) false its its).toArray
  refine PySem.W.sorted_vals here.isList (can X.prog X.w X.A.in1.in1 { s with heap := _ } its (PySem.W.each_map (R := fun v d => ∃ as, Reads _ v d as) id reads) (PySem.W.bound_map fun d m => ?_)) (by omega) ⟨.ref _, L2.upd H (s.heap.objs.size + 1) (.lst ys), I.laid (t' := s.toks) (fun _ _ => PyProof.Rows.sortedAll_old) (Nat.le_succ _) ⟨?_, _, ep, ry, at1⟩, rfl, q ys _ ty (I.hok.fresh (Nat.le_succ _))⟩
  · have := deep d m
    show X.A.units + 1 + 1 + PyData.depth d < cLine
    omega
  · rw [ry.length, PySem.W.sortVals_length false rfl, same]
    exact few
def rMinD (K : PySem.W.Frag) : List V → Hp → VK → Prop := fun vs H Q => ∃ (a : Addr) (xs : List V) (d : PyData) (ds : List PyData), vs = [.ref a] ∧ SqL K H a xs ∧ TdAll K H xs (d :: ds) ∧ PySem.W.AlikeAll (d :: ds) ∧ PyData.depthAll (d :: ds) ≤ 8 ∧
  ∀ y, Td K H y (PySem.W.minD d ds) → Q y H
theorem call_minD (hc : X.calm = true) (hu : X.A.units + 12 < cLine) : CallR X (.builtin "min") (rMinD X.K) := by
  intro pins s σ H vs us Q I r h
  obtain ⟨a, xs, d, ds, rfl, hs, td, hal, hd, q⟩ := h
  obtain ⟨its, rv, hl, hz⟩ := I.list hs
  rw [Vals.ref1 r]
  obtain ⟨as, hr⟩ := Dp.readsAll I (d :: ds) xs its (TdAll.dp _ _ td) rv
  refine PySem.W.min_list_data (vs := its.toArray) (I.ok.hd hc) hl.isList hr hal (by omega) fun i v h' tk bs hv hrd hk => ?_
  obtain ⟨x, hx, rx⟩ := vals_get rv (show its[i]? = some v by simpa using hv)
  obtain ⟨di, _, t⟩ := td.get' hx
  obtain ⟨as', r1⟩ := Dp.reads I di x v (Td.dp _ _ t) rx
  obtain ⟨e, _⟩ := PyProof.Rows.reads_det (fun b o eb _ => hk b o eb) r1 hrd
  exact ⟨x, H, I.kept hk, rx, q x (by rw [e]; exact t)⟩
theorem call_minK (K : PySem.W.Frag) (hc : X.calm = true) (hu : X.A.units + 12 < cLine) (h : X.K = K := by rfl) : CallR X (.builtin "min") (rMinD K) := h ▸ call_minD hc hu
end
section
variable {S : List Addr} {G : List (V × PyData)} {H0 : Hp} {σ : L2.St} {Γ : List Ct} {i j k : Nat} {c : Ct} {te ta tb tc tl ty td tv : TE} {t u : TT}
variable {D : Ends} {tu tw tz : TS} {p q : Addr} {b : Int} {E : XK}
theorem _root_.L2.Room.units12 {k : Nat} {A : Around} (r : Room k A) : A.units + 12 < cLine := by have := r.un; omega
theorem q_unpD {d1 d2 : PyData} (w : Wd K C S G H0 H σ Γ) (h : EvC K C te σ H (.d (.tuple [d1, d2]))) (k : ∀ σ1 H1, Wd K C S G H0 H1 σ1 ((Γ.set i (.d d1)).set j (.d d2)) → tz D σ1 H1) : tSeq (tAsg te (gTup K 2 (gCons (gName i) (gCons (gName j) gNil)))) tz D σ H :=
  h H (Same.refl H) _ fun v H1 e1 a1 => by
    obtain ⟨a, xs, rfl, s, t⟩ := Td.tup_of a1
    cases t with
    | cons t1 t =>
      cases t with
      | cons t2 t =>
        cases t
        exact ⟨a, _, rfl, s.sq, rfl, _, _, rfl, _, _, rfl, rfl, k _ H1 (((w.mono e1).set i (c := .d d1) t1).set j (c := .d d2) t2)⟩
theorem ev_minN {d : PyData} {ds : List PyData} (h : EvN K C te σ H (d :: ds)) (h1 : PySem.W.AlikeAll (d :: ds)) (h2 : PyData.depthAll (d :: ds) ≤ 8) : EvC K C (tCB (rMinD K) (tCons te tNil)) σ H (.d (PySem.W.minD d ds)) := ev_cb (ea_consN h ea_nil) fun H1 _ vs a Q q => by
  obtain ⟨v, rfl, p, xs, rfl, s, t⟩ := a.one
  exact ⟨p, xs, d, ds, rfl, SqL.of s, t, h1, h2, fun y ty => q y H1 (Same.refl H1) ty⟩
end
end Pt
namespace Pt
open PySem PySem.Spec PyProof.Rows L2
variable {K : PySem.W.Frag} {C : Addr} {H H' H1 H2 : Hp} {v w x y : V} {vs : List V} {d e : PyData} {ds es : List PyData}
variable {S : List Addr} {G : List (V × PyData)} {H0 : Hp} {σ : L2.St} {Γ : List Ct} {i j k : Nat} {c : Ct} {te ta tb tc tl ty td tv : TE} {t u : TT}
theorem Wd.wiped2 (w : Wd K C S G H0 H σ Γ) (i j : Nat) : Wd K C S G H0 H (wipe σ [i, j]) ((Γ.set j .u).set i .u) := by
  have w1 := (w.wiped j).wiped i
  exact w1
theorem Cw.mono {Dl : Addr} (c : Cw K H Dl es H1) (e : Same H1 H2) : Cw K H Dl es H2 := by
  obtain ⟨c1, c2, acc, c3, c4⟩ := c
  exact ⟨c1, c2.trans e, acc, e _ _ c3, TdAll.mono (.of e) _ _ c4⟩
end Pt
namespace Pt
open PySem PySem.Spec PyProof.Rows L2
variable {K : PySem.W.Frag} {C : Addr} {H H' H1 H2 : Hp} {v w x y : V} {vs : List V} {d e : PyData} {ds es : List PyData}
variable {S : List Addr} {G : List (V × PyData)} {H0 : Hp} {σ : L2.St} {Γ : List Ct} {i j k : Nat} {c : Ct} {te ta tb tc tl ty td tv tr : TE} {t u : TT}
variable {D : Ends} {tu tw tz : TS} {p q f : Addr} {P : Program} {W : World}
def owns (Γ : List Ct) : List Addr := (Γ.map fun c => if c.own = true then c.adr else []).flatten
theorem mem_owns {a : Addr} : a ∈ owns Γ ↔ ∃ (i : Nat) (c : Ct), Γ[i]? = some c ∧ c.own = true ∧ a ∈ c.adr := by
  unfold owns
  rw [List.mem_flatten]
  constructor
  · rintro ⟨l, hl, ha⟩
    obtain ⟨c, hc, rfl⟩ := List.mem_map.mp hl
    obtain ⟨i, hi⟩ := List.mem_iff_getElem?.mp hc
    cases o : c.own with
    | true => rw [o, if_pos rfl] at ha; exact ⟨i, c, hi, o, ha⟩
    | false => rw [o, if_neg Bool.false_ne_true] at ha; cases ha
  · rintro ⟨i, c, hi, o, ha⟩
    exact ⟨_, List.mem_map.mpr ⟨c, List.mem_of_getElem? hi, rfl⟩, by rw [o, if_pos rfl]; exact ha⟩
theorem Wd.re (w : Wd K C S G H0 H σ Γ) : Wd K C (S ++ owns Γ) G H H σ Γ :=
  ⟨fun _ _ h _ => h, fun a m => by
    rcases List.mem_append.mp m with m | m
    · exact w.sl a m
    · obtain ⟨i, c, hi, o, ha⟩ := mem_owns.mp m
      obtain ⟨v, _, hv⟩ := w.get hi (fun z => by rw [z] at o; cases o)
      exact hv.there ha, w.len, w.at_, fun i c hi o a ha => .inl (List.mem_append.mpr (.inr (mem_owns.mpr ⟨i, c, hi, o, ha⟩))), w.dj, w.gh⟩
theorem Wd.un {Γ' : List Ct} {σ' : L2.St} {G' : List (V × PyData)} (w : Wd K C S G H0 H σ Γ) (w' : Wd K C (S ++ owns Γ) G' H H' σ' Γ') : Wd K C S G' H0 H' σ' Γ' := by
  have old : ∀ {a : Addr}, a ∈ owns Γ → a ∈ S ∨ H0 a = none := fun {a} m => by
    obtain ⟨i, c, hi, o, ha⟩ := mem_owns.mp m
    exact w.wr i c hi o a ha
  refine ⟨fun a o h n => w'.fr a o (w.fr a o h n) fun m => ?_, fun a m => w'.sl a (List.mem_append.mpr (.inl m)), w'.len, w'.at_, fun i c hi o a ha => ?_, w'.dj, w'.gh⟩
  · rcases List.mem_append.mp m with m | m
    · exact n m
    · rcases old m with z | z
      · exact n z
      · rw [z] at h; cases h
  · rcases w'.wr i c hi o a ha with m | m
    · rcases List.mem_append.mp m with m | m
      · exact .inl m
      · exact old m
    · exact .inr (w.fresh0 m)
theorem Wd.notin (w : Wd K C S G H0 H σ Γ) {p : Addr} (hp : H p = none) : p ∉ S ++ owns Γ := fun m => by
  obtain ⟨u, h, _⟩ := w.re.sl p m
  rw [hp] at h; cases h
theorem s_forN {α : Type} {l : List α} {mk : α → PyData} {g : TG} (w : Wd K C S G H0 H σ Γ) (h : EvN K C tl σ H (l.map mk)) (I : Nat → List Ct → Prop) (h0 : I 0 Γ)
    (hs : ∀ (S1 : List Addr) (H1 : Hp), (∀ σ2 H2 Γ2, Wd K C S1 G H1 H2 σ2 Γ2 → Wd K C S G H0 H2 σ2 Γ2) → ∀ (k : Nat) (hk : k < l.length) (v : V) σ' H' Γ', I k Γ' → Wd K C S1 G H1 H' σ' Γ' → Td K H' v (mk l[k]) →
      g v σ' H' fun σ2 H2 => tu { D with nx := fun σ H => ∃ Γ2, I (k + 1) Γ2 ∧ Wd K C S1 G H1 H σ Γ2, ct := fun σ H => ∃ Γ2, I (k + 1) Γ2 ∧ Wd K C S1 G H1 H σ Γ2, bk := D.nx } σ2 H2)
    (hd : ∀ σ' H' Γ', I l.length Γ' → Wd K C S G H0 H' σ' Γ' → D.nx σ' H') : tFor (iList K tl) g tu D σ H :=
  h H (Same.refl H) _ fun p H1 hp e a => by
    obtain ⟨_, xs, s, td⟩ := a
    have w1 := w.mono e
    have hp1 : H1 p ≠ none := fun z => by rw [s] at z; cases z
    -- the list is nobody's
    have np : p ∉ S ++ owns Γ := w.notin hp
    have w2 : Wd K C (S ++ owns Γ) G H1 H1 σ Γ := w1.re
    have un : ∀ σ2 H2 Γ2, Wd K C (S ++ owns Γ) G H1 H2 σ2 Γ2 → Wd K C S G H0 H2 σ2 Γ2 := fun σ2 H2 Γ2 w' => w1.un w'
    refine ⟨p, rfl, ⟨xs, SqL.of s⟩, walkL (ds := l.map mk) (fun k σ' H' => ∃ Γ', I k Γ' ∧ Wd K C (S ++ owns Γ) G H1 H' σ' Γ') ⟨Γ, h0, w2⟩ (fun k σ' H' ⟨Γ', _, w'⟩ => ⟨xs, w'.fr p _ s np, TdAll.mono (.fr w2.sl w'.fr) _ _ td⟩) (fun k d v σ' H' hd t ⟨Γ', hi, w'⟩ => ?_) (fun σ' H' ⟨Γ', hi, w'⟩ => ?_)⟩
    · have hk : k < l.length := by
        have := (List.getElem?_eq_some_iff.mp hd).1
        rw [List.length_map] at this
        exact this
      have ed : d = mk l[k] := by
        rw [List.getElem?_map, List.getElem?_eq_getElem hk] at hd
        exact (Option.some.inj hd).symm
      subst ed
      exact hs _ _ un k hk v σ' H' Γ' hi w' t
    · rw [List.length_map] at hi
      exact hd σ' H' Γ' hi (un _ _ _ w')
theorem q_forN {α : Type} {l : List α} {mk : α → PyData} {g : TG} (w : Wd K C S G H0 H σ Γ) (h : EvN K C tl σ H (l.map mk)) (I : Nat → List Ct → Prop) (h0 : I 0 Γ)
    (hs : ∀ (S1 : List Addr) (H1 : Hp), (∀ σ2 H2 Γ2, Wd K C S1 G H1 H2 σ2 Γ2 → Wd K C S G H0 H2 σ2 Γ2) → ∀ (k : Nat) (hk : k < l.length) (v : V) σ' H' Γ', I k Γ' → Wd K C S1 G H1 H' σ' Γ' → Td K H' v (mk l[k]) →
      g v σ' H' fun σ2 H2 => tu { D with nx := fun σ H => ∃ Γ2, I (k + 1) Γ2 ∧ Wd K C S1 G H1 H σ Γ2, ct := fun σ H => ∃ Γ2, I (k + 1) Γ2 ∧ Wd K C S1 G H1 H σ Γ2, bk := tz D } σ2 H2)
    (hd : ∀ σ' H' Γ', I l.length Γ' → Wd K C S G H0 H' σ' Γ' → tz D σ' H') : tSeq (tFor (iList K tl) g tu) tz D σ H :=
  s_forN (D := { D with nx := tz D }) w h I h0 hs hd
theorem g_pair {d1 d2 : PyData} {Q : L2.St → Hp → Prop} (w : Wd K C S G H0 H σ Γ) (t : Td K H v (.tuple [d1, d2])) (k : ∀ σ1, Wd K C S G H0 H σ1 ((Γ.set i (.d d1)).set j (.d d2)) → Q σ1 H) : gTup K 2 (gCons (gName i) (gCons (gName j) gNil)) v σ H Q := by
  obtain ⟨a, xs, rfl, s, t⟩ := Td.tup_of t
  cases t with
  | cons t1 t =>
    cases t with
    | cons t2 t =>
      cases t
      exact ⟨a, _, rfl, s.sq, rfl, _, _, rfl, _, _, rfl, rfl, k _ ((w.set i (c := .d d1) t1).set j (c := .d d2) t2)⟩
theorem g_one {d1 : PyData} {Q : L2.St → Hp → Prop} (w : Wd K C S G H0 H σ Γ) (t : Td K H v d1) (k : ∀ σ1, Wd K C S G H0 H σ1 (Γ.set i (.d d1)) → Q σ1 H) : gName i v σ H Q := k _ (w.set i (c := .d d1) t)
end Pt
namespace Pt
open PySem PySem.Spec PyProof.Rows L2
variable {K : PySem.W.Frag} {C : Addr} {H H' H1 H2 : Hp} {v w x y : V} {vs : List V} {d e : PyData} {ds es : List PyData}
section
variable {X : Cx}
end
section
variable {S : List Addr} {G : List (V × PyData)} {H0 : Hp} {σ : L2.St} {Γ : List Ct} {i j k : Nat} {c : Ct} {te ta tb tc tl ty td tv : TE} {t u : TT}
variable {D : Ends} {tu tw tz : TS} {p q f : Addr} {b : Int} {E : XK} {P : Program} {W : World}
theorem mt_indexDK {X : Cx} (K : PySem.W.Frag) (hu : X.A.units + 65 < cLine) (h : X.K = K := by rfl) : MtR X "list.index" (rIndexD K) := h ▸ mt_indexD hu
theorem dataLt_row (a b : List Int) : PySem.W.dataLt (row a) (row b) = decide (a < b) := by
  rw [show row a = .tuple (iL a) from rfl, show row b = .tuple (iL b) from rfl, PySem.W.dataLt_tuple]
  exact PySem.W.dataLt_ints a b
def leR (a b : List Int) : Bool := decide (¬ b < a)
theorem sortedD_rows (L : List (List Int)) : sortedD (L.map row) = (L.mergeSort leR).map row := by
  unfold sortedD
  refine (List.map_mergeSort fun a _ b _ => ?_).symm
  have h : PySem.W.dataLe false id (row a) (row b) = !PySem.W.dataLt (row b) (row a) := rfl
  rw [h, dataLt_row]
  unfold leR
  by_cases z : b < a <;> simp [z]
theorem alike_iL : ∀ a b : List Int, PySem.W.alikeAll (iL a) (iL b) = true
  | [], _ => by simp [iL, PySem.W.alikeAll]
  | _ :: _, [] => by simp [iL, PySem.W.alikeAll]
  | x :: a, y :: b => by
    have ih := alike_iL a b
    simp only [iL] at ih
    simp [iL, PySem.W.alikeAll, PySem.W.alike, ih]
theorem rows_alike (L : List (List Int)) : PySem.W.AllAlike (L.map row) := fun x hx y hy => by
  obtain ⟨p, _, rfl⟩ := List.mem_map.mp hx
  obtain ⟨q, _, rfl⟩ := List.mem_map.mp hy
  show PySem.W.alikeAll (iL p) (iL q) = true
  exact alike_iL p q
theorem row_depth (l : List Int) : (row l).depth ≤ 8 := by
  have := depth_iL l
  simp only [row, PyData.depth]
  omega
theorem leR_trans (a b c : List Int) (h1 : leR a b = true) (h2 : leR b c = true) : leR a c = true := by
  unfold leR at *
  rw [decide_eq_true_eq] at *
  exact List.le_trans (l₁ := a) (l₂ := b) (l₃ := c) h1 h2
theorem leR_total (a b : List Int) : (leR a b || leR b a) = true := by
  unfold leR
  rw [Bool.or_eq_true, decide_eq_true_eq, decide_eq_true_eq]
  exact List.le_total a b
end
end Pt
namespace Pt
open PySem PySem.Spec PyProof.Rows L2
variable {K : PySem.W.Frag} {C : Addr} {H H' H1 H2 : Hp} {v w x y : V} {vs : List V} {d e : PyData} {ds es : List PyData}
variable {S : List Addr} {G : List (V × PyData)} {H0 : Hp} {σ : L2.St} {Γ : List Ct} {i j k l : Nat} {c : Ct} {te ta tb tc tl ty td tv : TE} {t u : TT}
variable {D : Ends} {tu tw tz : TS} {p q f : Addr} {b : Int} {E : XK} {P : Program} {W : World}
theorem dr_callF {A : List Ag → Prop} {R : List Ag → PyData → Prop} {as : List Ag} {ts : TA} (w : Wd K C S G H0 H σ Γ) (hi : Γ[i]? = some (.h p q)) (hs : EvA K C ts σ H as) (hA : A as) {Q : VK} (k : ∀ v d H', R as d → (∀ (c : Ct) (x : V), c.adr = [] → CtAt K C H x c → CtAt K C H' x c) → Wd K C S G H0 H' σ Γ → Td K H' v d → Q v H') :
    tCall (spDr K C A R) [] E (tCons (tVar i) ts) σ H Q := by
  obtain ⟨v, e, a⟩ := w.get hi
  obtain ⟨rfl, ne, s0, k0, cs, h1, h2, _⟩ := id a
  have l : LT [p, q] H := fun a m => by
    have e : a = p ∨ a = q := by simpa using m
    rcases e with e | e
    · subst e; exact ⟨_, h1, True.intro⟩
    · subst e; exact ⟨_, h2, True.intro⟩
  exact ⟨.ref p, e, hs H (Same.refl H) _ fun ws H2 e2 b2 => ⟨p, q, ws, as, by rw [List.append_nil], CtAt.mono e2 a, b2, hA, fun v d H' r f ct td => k v d H' r (fun c x hc hx => by
    have l2 : LT [p, q] H2 := fun a m => let ⟨u, h, z⟩ := l a m; ⟨u, e2 _ _ h, z⟩
    exact (CtAt.mono e2 hx).fr l2 f fun a m => by rw [hc] at m; cases m) ((w.mono e2).drawn hi f ct) td⟩⟩
end Pt
namespace Pt
open PySem PySem.Spec PyProof.Rows L2
variable {X : Cx} {K : PySem.W.Frag} {C : Addr} {H H' H1 H2 : Hp} {v w x y : V} {vs : List V} {d e : PyData} {ds es : List PyData}
variable {S : List Addr} {G : List (V × PyData)} {H0 : Hp} {σ : L2.St} {Γ : List Ct} {i j k : Nat} {c : Ct} {te ta tb tc tl ty td tv : TE} {t u : TT}
variable {D : Ends} {tu tw tz : TS} {p q f : Addr} {b : Int} {E : XK} {P : Program} {W : World}
theorem inV_ints (k : Int) (l : List Int) : inV (.int k) (l.map V.int) = decide (k ∈ l) := by
  unfold inV
  rw [List.any_map]
  have e1 : ∀ m : Int, eqV (.int m) (.int k) = decide (k = m) := fun m => by
    show (m == k) = decide (k = m)
    by_cases q : k = m
    · subst q; simp
    · simp [q, Ne.symm q]
  rw [show ((fun y => eqV y (.int k)) ∘ V.int) = fun m => decide (k = m) from funext e1]
  induction l with
  | nil => rfl
  | cons m l ih => rw [List.any_cons, ih]; by_cases q : k = m <;> simp [q]
theorem ev_inTi {neg : Bool} {k : Int} {l : List Int} (ha : EvC K C ta σ H (.d (.int k))) (hb : EvC K C tb σ H (.d (row l))) : EvC K C (tOp (rIn K neg) ta tb) σ H (.d (.bool (if neg then !decide (k ∈ l) else decide (k ∈ l)))) := fun H1 e1 Q q =>
  ha H1 e1 _ fun x H2 e2 a2 => hb H2 (e1.trans e2) _ fun y H3 e3 a3 => by
    obtain ⟨r, rfl, sr⟩ := row_of a3
    rw [Td.int_of a2]
    refine ⟨r, _, rfl, .inr sr.sq, rfl, ?_, ?_⟩
    · rw [List.all_map]
      exact List.all_eq_true.mpr fun _ _ => rfl
    · rw [inV_ints]
      exact q _ H3 (e2.trans e3) (.bl _)
theorem ev_minL {p : Addr} {d : PyData} {ds : List PyData} (h : EvC K C te σ H (.l p (d :: ds))) (h1 : PySem.W.AlikeAll (d :: ds)) (h2 : PyData.depthAll (d :: ds) ≤ 8) : EvC K C (tCB (rMinD K) (tCons te tNil)) σ H (.d (PySem.W.minD d ds)) := fun H1 e1 Q q =>
  h H1 e1 _ fun v H2 e2 a => by
    obtain ⟨rfl, xs, s, t⟩ := a
    exact ⟨p, xs, d, ds, rfl, SqL.of s, t, h1, h2, fun y ty => q y H2 e2 ty⟩
theorem rows_alikeAll (L : List (List Int)) : PySem.W.AlikeAll (L.map row) := ⟨fun x hx y hy => rows_alike L x hx y hy, fun x hx => by
  obtain ⟨p, _, rfl⟩ := List.mem_map.mp hx
  intro z; cases z⟩
end Pt
namespace Pt
open PySem PySem.Spec PyProof.Rows L2
variable {K : PySem.W.Frag} {C : Addr} {H H' H1 H2 : Hp} {v w x y : V} {vs : List V} {d e : PyData} {ds es : List PyData}
variable {S : List Addr} {G : List (V × PyData)} {H0 : Hp} {σ : L2.St} {Γ : List Ct} {i j k : Nat} {c : Ct} {te ta tb tc tl ty td tv : TE} {t u : TT}
variable {D : Ends} {tu tw tz : TS} {p q f : Addr} {b : Int} {E : XK} {P : Program} {W : World}
end Pt
namespace Pt
open PySem PySem.Spec PyProof.Rows L2
variable {K : PySem.W.Frag} {C : Addr} {H H' H1 H2 : Hp} {v w x y : V} {vs : List V} {d e : PyData} {ds es : List PyData}
variable {S : List Addr} {G : List (V × PyData)} {H0 : Hp} {σ : L2.St} {Γ : List Ct} {i j k : Nat} {c : Ct} {te ta tb tc tl ty td tv : TE} {t u : TT}
variable {D : Ends} {tu tw tz : TS} {p q f : Addr} {b : Int} {E : XK} {P : Program} {W : World}
end Pt
namespace Pt
open PySem PySem.Spec PyProof.Rows L2
variable {K : PySem.W.Frag} {C : Addr} {H H' H1 H2 : Hp} {v w x y : V} {vs : List V} {d e : PyData} {ds es : List PyData}
variable {σ : L2.St} {te ta tb tc tl ty td tv : TE} {P : Program} {W : World}
end Pt
namespace Pt
open PySem PySem.Spec PyProof.Rows L2
variable {K : PySem.W.Frag} {C : Addr} {H H' H1 H2 : Hp} {v w x y : V} {vs : List V} {d e : PyData} {ds es : List PyData}
variable {S : List Addr} {G : List (V × PyData)} {H0 : Hp} {σ : L2.St} {Γ : List Ct} {i j k b : Nat} {c : Ct} {te ta tb tc tl ty td tv : TE} {t u : TT}
theorem wipe_one2 (σ : L2.St) {i j : Nat} (h : i ≠ j) (x : Option V) : wipe ((wipe σ [i, j]).set i x) [i, j] = wipe σ [i, j] := by
  refine List.ext_getElem? fun k => ?_
  simp only [wipe, List.getElem?_set, List.length_set]
  by_cases h1 : i = k
  · subst h1
    simp
  · by_cases h2 : j = k
    · subst h2
      simp [h1]
    · simp [h1, h2]
end Pt
namespace Pt
open PySem PySem.Spec PyProof.Rows L2
abbrev EnV := List Int × V × Addr
def EntsV (es : List EnV) (xs : List (List Key × Addr × Value)) : Prop := Paired (fun (e : EnV) (q : List Key × Addr × Value) => q.1 = rowK e.1 ∧ q.2.1 = e.2.2 ∧ RelV e.2.1 q.2.2) es xs
def lookV (es : List EnV) (k : List Int) : Option V := (es.find? fun e => decide (e.1 = k)).map (·.2.1)
def putV (es : List EnV) (k : List Int) (v : V) (b : Addr) : List EnV := if (lookV es k).isSome then es.map (fun e => if e.1 = k then (e.1, v, e.2.2) else e) else es ++ [(k, v, b)]
theorem EntsV.val {es : List EnV} {xs : List (List Key × Addr × Value)} (r : EntsV es xs) (k : List Int) : RelO (lookV es k) ((atKey xs (rowK k)).map (·.2)) := by
  unfold EntsV at r
  induction r with
  | nil => exact True.intro
  | @cons p q ps qs h t ih =>
    obtain ⟨h1, _, h2⟩ := h
    by_cases e : p.1 = k
    · have e' : q.1 = rowK k := by rw [h1, e]
      have a : lookV (p :: ps) k = some p.2.1 := by simp [lookV, List.find?_cons, e]
      have b : atKey (q :: qs) (rowK k) = some q.2 := by simp [atKey, List.find?_cons, e']
      rw [a, b]; exact h2
    · have e' : ¬ q.1 = rowK k := fun z => e (rowK_inj (h1.symm.trans z))
      have a : lookV (p :: ps) k = lookV ps k := by simp [lookV, List.find?_cons, e]
      have b : atKey (q :: qs) (rowK k) = atKey qs (rowK k) := by simp [atKey, List.find?_cons, e']
      rw [a, b]; exact ih
theorem EntsV.len {es : List EnV} {xs : List (List Key × Addr × Value)} (r : EntsV es xs) : es.length = xs.length := Paired.length r
theorem EntsV.isSome {es : List EnV} {xs : List (List Key × Addr × Value)} (r : EntsV es xs) (k : List Int) : (lookV es k).isSome = (atKey xs (rowK k)).isSome := by
  have q := (r.val k).isSome_eq
  rw [Option.isSome_map] at q
  exact q
theorem EntsV.putMap {k : List Int} {v : V} {u : Value} (hu : RelV v u) : ∀ {es : List EnV} {xs : List (List Key × Addr × Value)}, EntsV es xs → EntsV (es.map (fun e => if e.1 = k then (e.1, v, e.2.2) else e)) (xs.map (putAt (rowK k) u))
  | _, _, .nil => .nil
  | _, _, @Paired.cons _ _ _ p q ps qs h t => by
    refine Paired.cons ?_ (EntsV.putMap hu t)
    obtain ⟨h1, h2, h3⟩ := h
    unfold putAt
    by_cases e : p.1 = k
    · simp only [if_pos e, if_pos (show q.1 = rowK k by rw [h1, e])]
      exact ⟨h1, h2, hu⟩
    · simp only [if_neg e, if_neg (show ¬ q.1 = rowK k from fun z => e (rowK_inj (h1.symm.trans z)))]
      exact ⟨h1, h2, h3⟩
theorem EntsV.put {es : List EnV} {xs : List (List Key × Addr × Value)} (r : EntsV es xs) {k : List Int} {v : V} {b : Addr} {u : Value} (hu : RelV v u) : EntsV (putV es k v b) (storedH xs (rowK k) b u) := by
  unfold putV storedH
  rw [r.isSome k]
  split
  · exact r.putMap hu
  · exact Paired.snoc r ⟨rfl, rfl, hu⟩
section
variable {X : Cx} {pins : List (Addr × Obj)} {σ : L2.St} {H : Hp} {s : Shared} {a b : Addr} {A : Around} {E : Value → Shared → Prop}
end
section
variable {X : Cx} {o i e value : Expr} {pos pos' : Pos} {td ty tv : TE}
end
section
variable {K : PySem.W.Frag} {C : Addr} {H H' H1 H2 : Hp} {v w x y : V} {vs : List V} {d e : PyData} {ds es : List PyData}
variable {S : List Addr} {G : List (V × PyData)} {H0 : Hp} {σ : L2.St} {Γ : List Ct} {i j k : Nat} {c : Ct} {te ta tb tc tl ty td tv : TE} {t u : TT}
variable {D : Ends} {tu tw tz : TS} {p q f : Addr} {P : Program} {W : World}
end
section
open PySem.W PySem.Calls PyProof.Rows PyProof.V
variable {prog : Program} {w : World} {A : Around} {E : Value → Shared → Prop} {s : Shared} {T : String} {r d : Addr} {n : Nat} {P : Nat → Value → Prop} {OK : Heap → Prop} {Q : Value → Shared → Prop}
end
section
open PySem.W
variable {X : Cx} {pins : List (Addr × Obj)} {σ : L2.St} {H : Hp} {s : Shared}
end
section
variable {K : PySem.W.Frag} {C : Addr} {H H' H1 H2 : Hp} {v w x y : V} {vs : List V} {d e : PyData} {ds es : List PyData}
variable {S : List Addr} {G : List (V × PyData)} {H0 : Hp} {σ : L2.St} {Γ : List Ct} {i j : Nat} {c : Ct} {te ta tb tc tl ty td tv : TE} {t u : TT}
variable {D : Ends} {tu tw tz : TS} {p q f : Addr} {P : Program} {W : World}
end
section
variable {X : Cx} {pins : List (Addr × Obj)} {σ : L2.St} {H : Hp} {s : Shared}
theorem tup_mul_short {l : Addr} {items : Array Value} {n : Nat} {dd : Option Addr} {sl : Array (Option Value)} {x : Int} {u : Tok} (self : Bool) (fit : -1000 ≤ x ∧ x ≤ 1000) (e : (items.isEmpty || x == 1) = self) (no : self = false → x ≤ 0) :
    Meets (Builtin.«tuple.__mul__» ⟨[.ref l, .int x u], []⟩) (fun _ R s => s.heap.get? l = some { cls := .type "tuple", dict := dd, data := .seq items n, slots := sl } ∧ R (.ok (.ret (.ref (bif self then l else s.heap.objs.size)))) { s with heap := bif self then s.heap else s.heap.push { cls := .type "tuple", data := .seq #[] } }) := by
  have small : (decide (x < -(2 ^ 63)) || decide (x ≥ 2 ^ 63)) = false := by
    rw [decide_eq_false (by omega), decide_eq_false (by omega)]
    rfl
  have idx := AutoSeq1.idx_int
  cases self with
  | true =>
    refine .of_wp fun prog w A R ⟨hp, gs, dr, tk, os⟩ ⟨here, q⟩ => ?_
    wp_walk using AutoSeq1.wpAny_loadPart' here
    repeat' (first
      | exact ⟨_, rfl, q⟩
      | (first
          | refine wpAny_ite_true (by simp only [e, decide_true]) ?_
          | refine wpAny_ite_false (by simp only [small, Bool.false_eq_true, decide_false]) ?_
         wp_walk using AutoSeq1.wpAny_loadPart' here))
  | false =>
    have none : (decide (x ≤ 0) || items.isEmpty) = true := by rw [decide_eq_true (no rfl)]; rfl
    refine .of_wp fun prog w A R ⟨hp, gs, dr, tk, os⟩ ⟨here, q⟩ => ?_
    wp_walk using AutoSeq1.wpAny_loadPart' here
    repeat' (first
      | exact ⟨_, rfl, q⟩
      | (first
          | refine wpAny_ite_true (by simp only [none, decide_true]) ?_
          | refine wpAny_ite_false (by simp only [small, e, Bool.false_eq_true, decide_false]) ?_
         wp_walk using AutoSeq1.wpAny_loadPart' here))
def rRepF (K : PySem.W.Frag) : R2 := fun x y H Q => ∃ l k xs, x = .ref l ∧ y = .int k ∧ SqT K H l xs ∧ -1000 ≤ k ∧ k ≤ 1000 ∧ xs.length ≤ 1000 ∧ ((xs = [] ∨ k = 1) → Q (.ref l) H) ∧ (¬ (xs = [] ∨ k = 1) → ∀ p o, H p = none → o.dict = none → Q (.ref p) (L2.upd H p (.frz o (.tup (List.replicate k.toNat xs).flatten))))
theorem rep_call {A : Around} {P : Program} {w : World} {l : Addr} {k : Int} {t : Tok} {items : Array Value} {n : Nat} {dd : Option Addr} {sl : Array (Option Value)} {S : PySem.Spec} {Q E : Value → Shared → Prop} (here : s.heap.get? l = some { cls := .type "tuple", dict := dd, data := .seq items n, slots := sl }) (M : Meets (Builtin.«tuple.__mul__» ⟨[.ref l, .int k t], []⟩) S) (q : S A (wants Q E) s) : wpAny (model P w) A (binaryOp .Mult (.ref l) (.int k t)) Q E s :=
  have is : s.TypeIs (.ref l) "tuple" := ⟨_, here, rfl⟩
  wpAny_binaryOp_repeat_ref (by decide) is (typeIs_int · k t) noFill_tuple_mul F.fills_int_mul F.slot_int_rmul repeat_tuple F.slot_int_index.lookup (call_meets F.slot_int_rmul (typeIs_int s k t) F.entry_int_rmul (F.args_int_rmul_2 _ _) (int_rmul_tuple k t l items n dd sl) ⟨here, rfl, is, call_meets F.slot_tuple_mul is F.entry_tuple_mul (F.args_tuple_mul_2 _ _) M q⟩)
theorem op_repF : OpR X (binaryOp .Mult) (rRepF X.K) := by
  rintro pins s σ H x y v u Q I rx ry ⟨l, k, xs, rfl, rfl, tup, lo, hi, few, one, many⟩
  obtain rfl : v = .ref l := rx
  obtain ⟨t, rfl⟩ := ry
  obtain ⟨its, r, ⟨⟨cls, dd, data, sl⟩, here, rfl, n, rfl⟩, _⟩ := I.tuple tup
  have len : its.length = xs.length := r.length.symm
  have prod : k.toNat * xs.length ≤ 1000 * 1000 := Nat.mul_le_mul (by omega) few
  have line := sizeLine_eq
  by_cases c : xs = [] ∨ k = 1
  · have e : (its.toArray.isEmpty || k == 1) = true := by
      rcases c with rfl | rfl
      · rw [List.eq_nil_of_length_eq_zero len]
        rfl
      · exact Bool.or_true _
    exact rep_call here (tup_mul_short true ⟨lo, hi⟩ e (fun z => nomatch z)) ⟨here, .ref l, H, I, rfl, one c⟩
  · have some : its.toArray.isEmpty = false := by
      cases its with
      | nil => exact absurd (.inl (List.eq_nil_of_length_eq_zero len.symm)) c
      | cons _ _ => rfl
    have e : (its.toArray.isEmpty || k == 1) = false := by
      rw [some, Bool.false_or]
      exact beq_eq_false_iff_ne.mpr fun z => c (.inr z)
    have new : H s.heap.objs.size = none := I.hok.fresh (Nat.le_refl _)
    have many := many c
    by_cases none : k ≤ 0
    · rw [Int.toNat_of_nonpos none] at many
      exact rep_call here (tup_mul_short false ⟨lo, hi⟩ e fun _ => none) ⟨here, .ref _, _, laidF I (xs := []) .nil (Nat.zero_le _), rfl, many _ _ new rfl⟩
    · have flat : (List.replicate k.toNat its).flatten.length = k.toNat * xs.length := by rw [PyProof.Rows.lm_len_rep_flat, len]
      have times : ((its.toArray.size : Nat) : Int) * k = ((k.toNat * xs.length : Nat) : Int) := by
        rw [List.size_toArray, len, Int.natCast_mul, Int.toNat_of_nonneg (by omega), Int.mul_comm]
      refine rep_call here (tuple_mulW l its.toArray n dd sl k t ?_ e ?_ ?_ ?_ ?_) ⟨here, ?_⟩
      · rw [decide_eq_false (by omega), decide_eq_false (by omega)] <;> rfl
      · rw [decide_eq_false none, some] <;> rfl
      · omega
      · exact decide_eq_false (by omega)
      · rw [size_rep, List.size_toArray]
        omega
      · rw [size_rep]
        exact ⟨.ref _, _, laidF I (r.rep k.toNat) (by rw [PyProof.Rows.lm_len_rep_flat]; omega), rfl, many _ _ new rfl⟩
theorem op_repFK {X : Cx} (K : PySem.W.Frag) (h : X.K = K := by rfl) : OpR X (binaryOp .Mult) (rRepF K) := h ▸ op_repF
end
section
variable {K : PySem.W.Frag} {C : Addr} {H H' H1 H2 : Hp} {v w x y : V} {vs : List V} {d e : PyData} {ds es : List PyData}
variable {S : List Addr} {G : List (V × PyData)} {H0 : Hp} {σ : L2.St} {Γ : List Ct} {i j : Nat} {c : Ct} {te ta tb tc tl ty td tv : TE} {t u : TT}
variable {D : Ends} {tu tw tz : TS} {p q f : Addr} {P : Program} {W : World}
theorem ev_repT {k : Int} (ha : EvC K C ta σ H (.d (.tuple ds))) (hb : EvC K C tb σ H (.d (.int k))) (h1 : -1000 ≤ k) (h2 : k ≤ 1000) (hl : ds.length ≤ 1000) : EvC K C (tOp (rRepF K) ta tb) σ H (.d (.tuple (List.replicate k.toNat ds).flatten)) :=
  ev_op2 ha hb fun H1 _ x y a1 a2 Q q => by
    obtain ⟨a, xs, rfl, s1, d1⟩ := Td.tup_of a1
    have l1 := d1.length
    have rep : ∀ m : Nat, TdAll K H1 (List.replicate m xs).flatten (List.replicate m ds).flatten := fun m => by
      induction m with
      | zero => exact .nil
      | succ m ih =>
        rw [List.replicate_succ, List.replicate_succ, List.flatten_cons, List.flatten_cons]
        exact d1.append ih
    refine ⟨a, k, xs, rfl, Td.int_of a2, s1.sq, h1, h2, by omega, fun hw => ?_, fun _ p o hp ho => q _ _ (same_new hp) (new_t hp ho (rep _))⟩
    have e : (List.replicate k.toNat ds).flatten = ds := by
      rcases hw with hw | hw
      · subst hw
        cases d1
        exact List.flatten_eq_nil_iff.mpr fun l hl => (List.mem_replicate.mp hl).2
      · subst hw
        simp
    exact q _ H1 (Same.refl H1) (by rw [e]; exact a1)
end
end Pt
namespace PySem.SeqAt
open PySem PySem.Calls PyProof.Rows PySem.W
section
variable {A : Around} {s : Shared}
theorem tupLtCall {prog : Program} {w : World} {E : Value → Shared → Prop} {Q : Value → Shared → Prop} {l b : Addr} {xs ys : Array Value} {e r : Nat → Bool} (hl : s.heap.IsTuple l xs) (hb : s.heap.IsTuple b ys) (he : ∀ j (h1 : j < xs.size) (h2 : j < ys.size), EqAt A.in1 s xs[j] ys[j] (e j)) (hr : ∀ j (h1 : j < xs.size) (h2 : j < ys.size), e j = false → RcLt A.in1 s xs[j] ys[j] (r j))
    (h : Q (.bool (firstLt e r (decide (xs.size < ys.size)) (List.range (min xs.size ys.size)))) s) : wpAny (model prog w) A (call (.builtin "tuple.__lt__") [.ref l, .ref b]) Q E s := by
  obtain ⟨⟨c1, d1, t1, s1⟩, ho, hc, n, hd⟩ := id hl
  obtain ⟨⟨c2, d2, t2, s2⟩, ho2, hc2, n2, hd2⟩ := id hb
  simp only at hc hd hc2 hd2
  subst hc hd hc2 hd2
  exact call_meets F.slot_tuple_lt ⟨_, ho, rfl⟩ F.entry_tuple_lt (F.args_tuple_lt_2 _ _) (tuple_ltAt l b xs ys n n2 d1 d2 s1 s2 e r) ⟨ho, ho2, he, hr, h⟩
theorem oneLt_tup {prog : Program} {w : World} {E : Value → Shared → Prop} {f : Bool} {xs ys : List PyData} {a b : Value} {as bs : List Addr} {Q : Bool → Shared → Prop} (ra : Reads s.heap a (.tuple xs) as) (rb : Reads s.heap b (.tuple ys) bs) (h : alike (.tuple xs) (.tuple ys) = true) (hu : A.units + min (PyData.tuple xs).depth (PyData.tuple ys).depth < cLine) (hq : Q (dataLt (.tuple xs) (.tuple ys)) s) : wpAny (model prog w) A (oneLt' f a b) Q E s := by
  cases f with
  | false => exact oneLt_alike (fun z => by cases z) ra rb h (fun z => by cases z) hu hq
  | true =>
    have hal : alikeAll xs ys = true := by simpa [alike] using h
    cases ra with
    | @tuple l o vs n _ as₁ h1 h2 h3 h4 =>
      cases rb with
      | @tuple l' o' vs' n' _ bs₁ k1 k2 k3 k4 =>
        have n1 : vs.size = xs.length := by simpa using ReadsAll.length _ _ _ h4
        have n2 : vs'.size = ys.length := by simpa using ReadsAll.length _ _ _ k4
        rw [dataLt_tuple, ← firstLt_toks xs ys hal, ← n1, ← n2] at hq
        rw [oneLt'_eq]
        simp only [if_true]
        refine wpAny_bind (wpAny_cRoomFor (room_here hu) ?_)
        refine wpAny_bind (wpAny_callSpecialIfBound?_slot (T := "tuple") ⟨_, h1, h2⟩ F.slot_tuple_lt (tupLtCall (e := pairEq xs ys) (r := fun j => dataLt (xs.getD j .none) (ys.getD j .none)) ⟨_, h1, h2, _, h3⟩ ⟨_, k1, k2, _, k3⟩ (fun j j1 j2 => ?_) (fun j j1 j2 hj => ?_) ?_))
        · have z := eqAt_alikeAll xs ys A.in1 s vs.toList vs'.toList _ _ h4 k4 hal (room_in hu) j (by simpa using j1) (by simpa using j2)
          rw [Array.getElem_toList, Array.getElem_toList] at z
          exact z
        · have z := rcLt_alikeAll xs ys A.in1 s vs.toList vs'.toList _ _ h4 k4 hal (room_in hu) j (by simpa using j1) (by simpa using j2) hj
          rw [Array.getElem_toList, Array.getElem_toList] at z
          exact z
        · exact wpAny_truthy_bool hq
end
end PySem.SeqAt
namespace Pt
open PySem PySem.Spec PyProof.Rows L2
section
open PySem.W
variable {prog : Program} {w : World} {A : Around} {E : Value → Shared → Prop} {s : Shared}
inductive MixTups (h : Heap) : List Value → List (Option Value) → Prop
  | nil : MixTups h [] []
  | cons {a : Addr} {o : Obj} {xs : Array Value} {n : Nat} {vs : List Value} {fs : List (Option Value)} : h.get? a = some o → o.cls = .type "tuple" → o.data = .seq xs n → MixTups h vs fs → MixTups h (.ref a :: vs) (xs[0]? :: fs)
theorem MixTups.length {h : Heap} {vs : List Value} {fs : List (Option Value)} (t : MixTups h vs fs) : fs.length = vs.length := by
  induction t with
  | nil => rfl
  | cons _ _ _ _ ih => exact congrArg (· + 1) ih
theorem mix_firsts {M : Model} : ∀ {vs : List Value} {fs : List (Option Value)} {Q : List (Option Value) → Shared → Prop}, MixTups s.heap vs fs → Q fs s → wpAny M A (vs.mapM firstOfTuple') Q E s
  | _, _, _, .nil, h => by rw [List.mapM_nil]; exact wpAny_pure h
  | _, _, Q, @MixTups.cons _ a o xs n vs fs ho hc hd t, h => by
    rw [List.mapM_cons]
    refine wpAny_bind ?_
    rw [kas_first_eq]
    refine wpAny_bind (Looks.here (show Looks M s.heap (typeOf (.ref a)) o.cls from (Looks.ld ho).andThen .now) ?_)
    rw [hc, if_neg (by decide)]
    refine wpAny_bind (listItems_at ho hd (wpAny_pure ?_))
    exact wpAny_bind (mix_firsts (Q := fun bs s' => wpAny M A (pure (xs[0]? :: bs)) Q E s') t (wpAny_pure h))
theorem MixTups.typed {h : Heap} {M : Model} {vs : List Value} {fs : List (Option Value)} (t : MixTups h vs fs) : ∀ v ∈ vs, Looks M h (typeOf v) (Value.type "tuple") := by
  induction t with
  | nil => exact fun v m => by cases m
  | @cons a o xs n vs fs ho hc hd _ ih =>
    intro v m
    rcases List.mem_cons.mp m with rfl | m
    · have : Looks M h (typeOf (.ref a)) o.cls := (Looks.ld ho).andThen .now
      rw [hc] at this
      exact this
    · exact ih v m
theorem mix_kind {M : Model} {vs : List Value} {fs : List (Option Value)} {Q : SortKind → Shared → Prop} (t : MixTups s.heap vs fs) (hn : none ∈ fs) (h1 : (∃ f r, fs = some f :: r) → Q general' s) (h2 : (∃ r, fs = none :: r) → Q oneType' s) : wpAny M A (keyKind' vs.toArray) Q E s := by
  rw [keyKind'_eq, List.mapM_toArray, map_eq_pure_bind]
  refine wpAny_bind (wpAny_bind (mix_firsts t (wpAny_pure ?_)))
  rw [if_neg (by
    rw [List.all_toArray, List.all_eq_true]
    exact fun z => by have := z none hn; cases this)]
  have hlen := t.length
  cases fs with
  | nil => cases hn
  | cons f r =>
    cases f with
    | some f =>
      rw [if_pos (by simp)]
      exact wpAny_pure (h1 ⟨f, r, rfl⟩)
    | none =>
      rw [if_neg (by simp)]
      rw [oneTypeOnly'_eq, List.mapM_toArray, map_eq_pure_bind]
      refine wpAny_bind (wpAny_bind (wpAny_bind (kas_mapM (r := Value.type "tuple") _ (fun v hv Q' hq => (t.typed v hv).here hq) (wpAny_pure ?_))))
      have h0 : (List.map (fun _ => Value.type "tuple") vs).toArray[0]? = some (Value.type "tuple") := by
        cases vs with
        | nil => cases hlen
        | cons v vs => simp
      have hall : ((List.map (fun _ => Value.type "tuple") vs).toArray.all fun x => x == Value.type "tuple") = true := by
        simp only [List.all_toArray, List.all_map, List.all_eq_true]
        exact fun _ _ => beq_self_eq_true (Value.type "tuple")
      rw [h0]
      simp only [hall, if_true]
      exact wpAny_pure (wpAny_pure (h2 ⟨r, rfl⟩))
theorem mix_of : ∀ {vs : List Value} {ds : List PyData}, EachIs (fun v d => ∃ as, Reads s.heap v d as) vs ds → (∀ d, d ∈ ds → ∃ x, d = .tuple x) → ∃ fs, MixTups s.heap vs fs ∧ (.tuple [] ∈ ds → none ∈ fs)
  | _, _, .nil, _ => ⟨[], .nil, fun z => by cases z⟩
  | _, _, .cons (b := d) ⟨as, r⟩ t, ht => by
    obtain ⟨fs, h1, h2⟩ := mix_of t fun d hd => ht d (List.mem_cons_of_mem _ hd)
    obtain ⟨x, rfl⟩ := ht d (List.mem_cons_self ..)
    cases r with
    | @tuple a o xs n _ _ ho hc hd hr =>
      refine ⟨xs[0]? :: fs, .cons ho hc hd h1, fun m => ?_⟩
      rcases List.mem_cons.mp m with m | m
      · injection m with m
        subst m
        have : xs.toList = [] := by
          cases q : xs.toList with
          | nil => rfl
          | cons f fr => rw [q] at hr; cases hr
        rw [← Array.getElem?_toList, this]
        exact List.mem_cons_self
      · exact List.mem_cons_of_mem _ (h2 m)
theorem can_tups {ds : List PyData} (al : AllAlike ds) (tups : ∀ d ∈ ds, ∃ x, d = .tuple x) : Can ds := fun P w A s vs e u => by
  by_cases empty : .tuple [] ∈ ds
  · have lt : ∀ {f : Bool} {E : Value → Shared → Prop} {x y : Value} {a b : List (Int ⊕ List Nat)} {Q : Bool → Shared → Prop}, (dataKind s.heap ds).keyOf x = some a → (dataKind s.heap ds).keyOf y = some b → Q (lexLt itemOrd a b) s → wpAny (model P w) A (oneLt' f x y) Q E s := fun {f E x y a b Q} ka kb q => by
      obtain ⟨d, as, md, ra, rfl⟩ := dataKind_inv ka
      obtain ⟨d', as', md', rb, rfl⟩ := dataKind_inv kb
      obtain ⟨i, rfl⟩ := tups d md
      obtain ⟨j, rfl⟩ := tups d' md'
      exact SeqAt.oneLt_tup ra rb (al _ md _ md') (Nat.lt_of_le_of_lt (Nat.add_le_add_left (Nat.min_le_left _ _) _) (u _ md)) q
    obtain ⟨fs, t, hn⟩ := mix_of e tups
    match fs, t, hn empty with
    | some f :: r, t, hn => exact ⟨keys_told e al, general', fun E x y a b Q ka kb q => (lt (f := false) ka kb q : wpAny _ _ (oneLt' false x y) _ _ _), fun _ E Q q => mix_kind t hn (fun _ => q) fun ⟨r, z⟩ => nomatch z⟩
    | none :: r, t, hn => exact ⟨keys_told e al, oneType', fun E x y a b Q ka kb q => by rw [keyLt'_oneType]; exact lt ka kb q, fun _ E Q q => mix_kind t hn (fun ⟨f, r, z⟩ => nomatch z) fun _ => q⟩
  · refine SortsAt.data e al (.inl fun d m => ?_) u
    obtain ⟨x, rfl⟩ := tups d m
    cases x with
    | nil => exact absurd m empty
    | cons y r => exact ⟨y, r, rfl⟩
end
def rSortT (K : PySem.W.Frag) : List V → Hp → VK → Prop := fun vs H Q => ∃ (a : Addr) (xs : List V) (ds : List PyData), vs = [.ref a] ∧ SqL K H a xs ∧ TdAll K H xs ds ∧ PySem.W.AllAlike ds ∧ (∀ d ∈ ds, ∃ x, d = .tuple x) ∧ (∀ d ∈ ds, d.depth ≤ 8) ∧
  ∀ (ys : List V) (p : Addr), TdAll K H ys (sortedD ds) → H p = none → Q (.ref p) (L2.upd H p (.lst ys))
theorem call_sortT {X : Cx} (hu : X.A.units + 12 < cLine) : CallR X (.builtin "sorted") (rSortT X.K) := fun pins s σ H vs us Q I r ⟨a, xs, ds, ev, lst, td, al, tups, deep, q⟩ => by
  subst ev
  rw [Vals.ref1 r]
  exact sorted_can hu I lst td al (can_tups al tups) deep q
theorem call_sortTK {X : Cx} (K : PySem.W.Frag) (hu : X.A.units + 12 < cLine) (h : X.K = K := by rfl) : CallR X (.builtin "sorted") (rSortT K) := h ▸ call_sortT hu
section
variable {K : PySem.W.Frag} {C : Addr} {H H' H1 H2 : Hp} {σ : L2.St} {te : TE} {ds : List PyData}
theorem en_sortTL {p : Addr} (h : EvC K C te σ H (.l p ds)) (h1 : PySem.W.AllAlike ds) (h2 : ∀ d ∈ ds, ∃ x, d = .tuple x) (h3 : ∀ d ∈ ds, d.depth ≤ 8) : EvN K C (tCB (rSortT K) (tCons te tNil)) σ H (sortedD ds) := fun H1 e1 Q q =>
  h H1 e1 _ fun v H2 e2 a => by
    obtain ⟨rfl, xs, s, t⟩ := a
    exact ⟨p, xs, ds, rfl, SqL.of s, t, h1, h2, h3, fun ys l ty hl => q l _ (e2.free hl) (e2.trans (same_new hl)) (new_l hl ty)⟩
end
end Pt
namespace Pt
open PySem PySem.Spec PyProof.Rows L2
def tLock (te : TE) : TE := fun σ H Q => te σ H fun v H1 => ∃ p xs, v = .ref p ∧ H1 p = some (.lst xs) ∧ ∀ o, Q v (L2.upd H1 p (.frz o (.lst xs)))
theorem pe_lock {X : Cx} {e : Expr} {te : TE} (h : PE X e te) : PE X e (tLock te) := ⟨fun pins s σ H Q I hq => thn (h.run pins s σ H _ I hq) fun u s1 ⟨v, H1, I1, r, p, xs, ev, hp, q⟩ => by
  obtain ⟨o, I2⟩ := I1.lock hp True.intro
  exact ⟨v, _, I2, r, q o⟩⟩
section
variable {K : PySem.W.Frag} {C : Addr} {H H' H1 H2 : Hp} {v w x y : V} {vs : List V} {d e : PyData} {ds es : List PyData}
variable {S : List Addr} {G : List (V × PyData)} {H0 : Hp} {σ : L2.St} {Γ : List Ct} {i j : Nat} {c : Ct} {te ta tb tc tl ty td tv : TE} {t u : TT}
variable {D : Ends} {tu tw tz : TS} {p q f : Addr} {P : Program} {W : World}
theorem ev_lock (h : EvN K C te σ H ds) : EvC K C (tLock te) σ H (.d (.list ds)) := fun H1 e1 Q q => h H1 e1 _ fun p H2 hp e2 a => by
  obtain ⟨_, xs, s, t⟩ := a
  have tx : ∀ o, Tx H2 (L2.upd H2 p (.frz o (.lst xs))) := fun o => .fr (LT.one s) Fr.upd
  refine ⟨p, xs, rfl, s, fun o => q _ _ (fun a ob ha => ?_) (.lst ⟨o, upd_same⟩ (TdAll.mono (tx o) _ _ t))⟩
  rw [upd_ne (ne_of_none ha hp)]
  exact e2 _ _ ha
theorem walkDL {a : Addr} {g : TG} {D : Ends} (Pv : Nat → L2.St → Hp → Prop) (h0 : Pv 0 σ H) (hw : ∀ k σ' H', Pv k σ' H' → Td K H' (.ref a) (.list ds))
    (hs : ∀ k d v σ' H', ds[k]? = some d → Td K H' v d → Pv k σ' H' → g v σ' H' fun σ2 H2 => tu { D with nx := Pv (k + 1), ct := Pv (k + 1), bk := D.nx } σ2 H2) (hd : ∀ σ' H', Pv ds.length σ' H' → D.nx σ' H') : Turns (Itl K a) g tu D σ H := turns_nth told_L Pv h0 (fun k σ' H' p => by
  obtain ⟨_, xs, e, s, t⟩ := Td.lst_of (hw k σ' H' p)
  cases e
  exact ⟨xs, s.sq, t⟩) hs hd
end
end Pt
namespace Pt
open PySem PySem.Spec PyProof.Rows L2
variable {K : PySem.W.Frag} {C : Addr} {H H' H1 H2 : Hp} {v w x y : V} {vs : List V} {d e : PyData} {ds es : List PyData}
variable {S : List Addr} {G : List (V × PyData)} {H0 : Hp} {σ : L2.St} {Γ : List Ct} {i j k l m b : Nat} {c : Ct} {te ta tb tc tl ty td tv : TE} {t u : TT} {ts : TA}
variable {D : Ends} {tu tw tz : TS} {p q f : Addr} {E : XK} {P : Program} {W : World} {α β : Type}
def CAll (K : PySem.W.Frag) (C : Addr) (ce : β → Ct) (H : Hp) : List V → List β → Prop
  | [], [] => True
  | v :: vs, b :: bs => CtAt K C H v (ce b) ∧ CAll K C ce H vs bs
  | _, _ => False
theorem CAll.fr {T : List Addr} {ce : β → Ct} (hce : ∀ b, (ce b).adr = []) (l : LT T H) (f : Fr T H H') : ∀ {vs : List V} {bs : List β}, CAll K C ce H vs bs → CAll K C ce H' vs bs
  | [], [], _ => True.intro
  | _ :: _, b :: _, ⟨a, r⟩ => ⟨CtAt.fr l f (by rw [hce b]; simp) a, CAll.fr hce l f r⟩
  | [], _ :: _, h => h.elim
  | _ :: _, [], h => h.elim
theorem CAll.mono {ce : β → Ct} (hce : ∀ b, (ce b).adr = []) (e : Same H H') {vs : List V} {bs : List β} (h : CAll K C ce H vs bs) : CAll K C ce H' vs bs := h.fr hce LT.nil (Fr.of e [])
theorem CAll.length {ce : β → Ct} : ∀ {vs : List V} {bs : List β}, CAll K C ce H vs bs → vs.length = bs.length
  | [], [], _ => rfl
  | _ :: _, _ :: _, ⟨_, r⟩ => congrArg (· + 1) (CAll.length r)
  | [], _ :: _, h => h.elim
  | _ :: _, [], h => h.elim
theorem CAll.snoc {ce : β → Ct} {v : V} {b : β} (hv : CtAt K C H v (ce b)) : ∀ {vs : List V} {bs : List β}, CAll K C ce H vs bs → CAll K C ce H (vs ++ [v]) (bs ++ [b])
  | [], [], _ => ⟨hv, True.intro⟩
  | _ :: _, _ :: _, ⟨a, r⟩ => ⟨a, CAll.snoc hv r⟩
  | [], _ :: _, h => h.elim
  | _ :: _, [], h => h.elim
theorem CAll.get {ce : β → Ct} : ∀ {vs : List V} {bs : List β} {k : Nat} {v : V}, CAll K C ce H vs bs → vs[k]? = some v → ∃ b, bs[k]? = some b ∧ CtAt K C H v (ce b)
  | _ :: _, b :: _, 0, _, ⟨a, _⟩, e => ⟨b, rfl, by cases e; exact a⟩
  | _ :: _, _ :: _, k + 1, _, ⟨_, r⟩, e => CAll.get (k := k) r e
  | [], _, _, _, _, e => by simp at e
  | _ :: _, [], _, _, h, _ => h.elim
theorem CAll.data : ∀ {vs : List V} {bs : List β} {g : β → PyData}, CAll K C (fun b => .d (g b)) H vs bs → TdAll K H vs (bs.map g)
  | [], [], _, _ => .nil
  | _ :: _, _ :: _, _, ⟨a, r⟩ => .cons a (CAll.data r)
  | [], _ :: _, _, h => h.elim
  | _ :: _, [], _, h => h.elim
def EvM (K : PySem.W.Frag) (C : Addr) (te : TE) (σ : L2.St) (H : Hp) (ce : β → Ct) (bs : List β) : Prop := ∀ H1, Same H H1 → ∀ Q : VK, (∀ p xs H2, H1 p = none → Same H1 H2 → H2 p = some (.lst xs) → CAll K C ce H2 xs bs → Q (.ref p) H2) → te σ H1 Q
theorem EvM.n {bs : List β} {g : β → PyData} (h : EvM K C te σ H (fun b => .d (g b)) bs) : EvN K C te σ H (bs.map g) := fun H1 e1 Q q => h H1 e1 _ fun p xs H2 hp e2 s a => q p H2 hp e2 ⟨rfl, xs, s, a.data⟩
end Pt
namespace Pt
open PySem PySem.Spec PyProof.Rows L2
variable {K : PySem.W.Frag} {C : Addr} {H H' H1 H2 : Hp} {v w x y : V} {vs : List V} {d e : PyData} {ds es : List PyData}
variable {S : List Addr} {G : List (V × PyData)} {H0 : Hp} {σ : L2.St} {Γ : List Ct} {i j k l m : Nat} {c : Ct} {te ta tb tc tl ty td tv : TE} {t u : TT} {ts : TA}
variable {D : Ends} {tu tw tz : TS} {p q f : Addr} {E : XK} {P : Program} {W : World} {α β : Type}
theorem wipe3 (σ : L2.St) {i j l : Nat} (h1 : i ≠ j) (h2 : i ≠ l) (h3 : j ≠ l) (x y z : Option V) : wipe ((((wipe σ [i, j, l]).set i x).set j y).set l z) [i, j, l] = wipe σ [i, j, l] := by
  refine List.ext_getElem? fun k => ?_
  simp only [wipe, List.getElem?_set, List.length_set]
  by_cases a : i = k
  · subst a; simp
  · by_cases b : j = k
    · subst b; simp [a]
    · by_cases c : l = k
      · subst c; simp [a, b]
      · simp [a, b, c]
theorem Wd.wiped3 (w : Wd K C S G H0 H σ Γ) (i j l : Nat) : Wd K C S G H0 H (wipe σ [i, j, l]) (((Γ.set l .u).set j .u).set i .u) := ((w.wiped l).wiped j).wiped i
end Pt
namespace Pt
open PySem PySem.Spec PyProof.Rows L2
variable {K : PySem.W.Frag} {C : Addr} {H H' H1 H2 : Hp} {v w x y : V} {vs : List V} {d e : PyData} {ds es : List PyData}
variable {S : List Addr} {G : List (V × PyData)} {H0 : Hp} {σ : L2.St} {Γ : List Ct} {i j k l m : Nat} {c : Ct} {te ta tb tc tl ty td tv : TE} {t u : TT} {ts : TA}
variable {D : Ends} {tu tw tz : TS} {p q f : Addr} {E E' : XK} {P : Program} {W : World} {R R2 : PyData → Prop}
def DrI (K : PySem.W.Frag) (C : Addr) (S : List Addr) (G : List (V × PyData)) (H0 : Hp) (σ : L2.St) (Γ : List Ct) (te : TE) (R : Int → Prop) : Prop := ∀ H, Wd K C S G H0 H σ Γ → ∀ Q : VK, (∀ r H', R r → Wd K C S G H0 H' σ Γ → Q (.int r) H') → te σ H Q
theorem ev_tc (h : Td K H v d) : EvC K C (tC v) σ H (.d d) := fun H1 e1 Q q => q v H1 (Same.refl H1) (Td.mono (.of e1) _ _ h)
end Pt
namespace Pt
open PySem PySem.Spec PyProof.Rows L2
section
variable {X : Cx}
theorem pget_list : PGet X (rIxL X.K) := fun pins s σ H x y v u Q I rx ry ⟨p, xs, i, z, ex, ey, lst, item, q⟩ => by
  subst ex ey
  obtain rfl : v = .ref p := rx
  obtain ⟨t, rfl⟩ := ry
  obtain ⟨its, r, here, _⟩ := I.list lst
  obtain ⟨j, place, nth, below, a, b⟩ := atI_get item
  obtain ⟨w, cell, rw'⟩ := r.get nth
  have size : its.toArray.size = xs.length := by rw [List.size_toArray, r.length]
  have cell : its.toArray[j]? = some w := by simpa using cell
  have got : EP X pins σ Q w s := ⟨z, H, I, rw', q⟩
  have fit := line63
  rcases Int.lt_or_le i 0 with neg | pos
  · rw [seqIndex_neg neg a, ← size] at place
    exact wpAny_getItem_list_neg here.isList neg (by omega) (by omega) (by rw [Option.some.inj place]; exact cell) got
  · rw [seqIndex_of pos b] at place
    exact wpAny_getItem_list here.isList pos (by omega) (by rw [Option.some.inj place]; exact cell) got
theorem pget_listK (K : PySem.W.Frag) (h : X.K = K := by rfl) : PGet X (rIxL K) := h ▸ pget_list
end
variable {K : PySem.W.Frag} {C : Addr} {H H' H1 H2 : Hp} {v w x y : V} {vs : List V} {d e : PyData} {ds es : List PyData}
variable {S : List Addr} {G : List (V × PyData)} {H0 : Hp} {σ : L2.St} {Γ : List Ct} {i j k l m b : Nat} {c : Ct} {te ta tb tc tl ty td tv : TE} {t u : TT} {ts : TA}
variable {D : Ends} {tu tw tz : TS} {p q f : Addr} {E : XK} {P : Program} {W : World}
theorem en_repL {k : Int} (ha : EvN K C ta σ H ds) (hb : EvC K C tb σ H (.d (.int k))) (h1 : -1000 ≤ k) (h2 : k ≤ 1000) (hl : ds.length ≤ 1000) : EvN K C (tOp rRep ta tb) σ H (List.replicate k.toNat ds).flatten := fun H1 e1 Q q =>
  ha H1 e1 _ fun p H2 hp e2 a2 => hb H2 (e1.trans e2) _ fun y H3 e3 a3 => by
    obtain ⟨_, xs, s, d1⟩ := CtAt.mono e3 a2
    have rep : ∀ m : Nat, TdAll K H3 (List.replicate m xs).flatten (List.replicate m ds).flatten := fun m => by
      induction m with
      | zero => exact .nil
      | succ m ih =>
        rw [List.replicate_succ, List.replicate_succ, List.flatten_cons, List.flatten_cons]
        exact d1.append ih
    refine ⟨p, k, xs, rfl, Td.int_of a3, s, by omega, by omega, ?_, fun l hl' => q l _ ((e2.trans e3).free hl') ((e2.trans e3).trans (same_new hl')) (new_l hl' (rep _))⟩
    rw [d1.length]
    exact Nat.le_trans (Nat.mul_le_mul hl (show k.toNat ≤ 1000 by omega)) (Nat.le_of_ble_eq_true rfl)
theorem ixN_at {n : Nat} {j : Nat} (h : j < n) : ixN n (j : Int) = some j := by
  unfold ixN
  rw [if_pos (by omega), if_pos (by omega)]
  simp
theorem s_setL {j : Nat} (w : Wd K C S G H0 H σ Γ) (hi : Γ[i]? = some (.l p ds)) (h : EvC K C te σ H (.d d)) (hx : ∀ H1, Wd K C S G H0 H1 σ Γ → EvC K C tb σ H1 (.d (.int (j : Nat)))) (hj : j < ds.length)
    (k : ∀ H1, Wd K C S G H0 H1 σ (Γ.set i (.l p (ds.set j d))) → D.nx σ H1) : tAsg te (gSub (tVar i) tb rSetL) D σ H :=
  h H (Same.refl H) _ fun x H1 e1 a1 => by
    have w1 := w.mono e1
    obtain ⟨v, ev, rfl, xs, s, t⟩ := w1.get hi
    refine ⟨.ref p, ev, hx H1 w1 H1 (Same.refl H1) _ fun y H2 e2 a2 => ?_⟩
    rw [Td.int_of a2]
    refine ⟨p, xs, (j : Nat), j, rfl, rfl, e2 _ _ s, ixN_at (by rw [t.length]; exact hj), ?_⟩
    exact k _ ((w1.mono e2).chg hi ((TdAll.mono (.of e2) _ _ t).set j (Td.mono (.of e2) _ _ a1)))
theorem s_addL {j : Nat} {x0 z : Int} (w : Wd K C S G H0 H σ Γ) (hi : Γ[i]? = some (.l p ds)) (hx : EvC K C tb σ H (.d (.int (j : Nat)))) (hg : ds[j]? = some (.int x0)) (h : ∀ H1, Wd K C S G H0 H1 σ Γ → EvC K C te σ H1 (.d (.int z)))
    (k : ∀ H1, Wd K C S G H0 H1 σ (Γ.set i (.l p (ds.set j (.int (x0 + z))))) → D.nx σ H1) : tAugS (tVar i) tb te (rIxL K) (ipI fun i j => i + j) rSetL D σ H := by
  obtain ⟨v, ev, rfl, xs, s, t⟩ := w.get hi
  have hj : j < ds.length := (List.getElem?_eq_some_iff.mp hg).1
  refine ⟨.ref p, ev, hx H (Same.refl H) _ fun y H2 e2 a2 => ?_⟩
  rw [Td.int_of a2]
  have w2 := w.mono e2
  have t2 := TdAll.mono (.of e2) _ _ t
  obtain ⟨y, ey, ty⟩ := t2.get hg
  refine ⟨p, xs, (j : Nat), y, rfl, rfl, SqL.of (e2 _ _ s), atI_nat ey, ?_⟩
  refine h H2 w2 H2 (Same.refl H2) _ fun z' H3 e3 a3 => ⟨x0, z, Td.int_of ty, Td.int_of a3, p, xs, (j : Nat), j, rfl, rfl, e3 _ _ (e2 _ _ s), ixN_at (by rw [t.length]; exact hj), ?_⟩
  exact k _ ((w2.mono e3).chg hi ((TdAll.mono (.of e3) _ _ t2).set j (.int _)))
theorem ev_neg {k : Int} (h : EvC K C ta σ H (.d (.int k))) : EvC K C (tUn (rU fun i => V.int (-i)) ta) σ H (.d (.int (-k))) := fun H1 e1 Q q => h H1 e1 _ fun v H2 e2 a => ⟨k, Td.int_of a, q _ H2 e2 (.int _)⟩
theorem s_forDL {g : TG} (w : Wd K C S G H0 H σ Γ) (h : EvC K C tl σ H (.d (.list ds))) (Pv : Addr → Nat → L2.St → Hp → Prop) (h0 : ∀ a H1, Wd K C S ((.ref a, .list ds) :: G) H0 H1 σ Γ → Pv a 0 σ H1)
    (hw : ∀ a k σ' H', Pv a k σ' H' → Td K H' (.ref a) (.list ds))
    (hs : ∀ a k d v σ' H', ds[k]? = some d → Td K H' v d → Pv a k σ' H' → g v σ' H' fun σ2 H2 => tu { D with nx := Pv a (k + 1), ct := Pv a (k + 1), bk := D.nx } σ2 H2) (hd : ∀ a σ' H', Pv a ds.length σ' H' → D.nx σ' H') : tFor (iList K tl) g tu D σ H :=
  h H (Same.refl H) _ fun v H1 e a => by
    obtain ⟨p, xs, rfl, s, t⟩ := Td.lst_of a
    exact ⟨p, rfl, ⟨xs, s.sq⟩, walkDL (Pv p) (h0 p H1 ((w.mono e).ghost a)) (hw p) (hs p) (hd p)⟩
theorem dr_nextK {b : Int} {c0 : Ct} {x0 : V} (w : Wd K C S G H0 H σ Γ) (hi : Γ[i]? = some (.h p q)) (hb : EvC K C tb σ H (.d (.int b))) (h1 : 1 ≤ b) (h2 : b ≤ 1000000) (hc : c0.adr = []) (hx : CtAt K C H x0 c0) {Q : VK} (k : ∀ (r : Int) H', 0 ≤ r → r < b → Wd K C S G H0 H' σ Γ → CtAt K C H' x0 c0 → Q (.int r) H') :
    tCall (spH K C) [] E (tCons (tVar i) (tCons tb tNil)) σ H Q := by
  obtain ⟨v, e, a⟩ := w.get hi
  obtain ⟨rfl, a'⟩ := id a
  refine ⟨.ref p, e, hb H (Same.refl H) _ fun y H2 e2 b2 => ⟨p, q, b, ?_, CtAt.mono e2 a, h1, h2, fun r H' r0 r1 f ct => k r H' r0 r1 ((w.mono e2).drawn hi f ct) ?_⟩⟩
  · rw [Td.int_of b2]
    rfl
  · have lt : LT [p, q] H2 := fun a' m => CtAt.there (K := K) (C := C) (CtAt.mono e2 a) (by simpa [Ct.adr] using m)
    exact (CtAt.mono e2 hx).fr lt f fun a' ha => by rw [hc] at ha; cases ha
end Pt
namespace Pt
open PySem PySem.Spec PyProof.Rows L2
section
variable {X : Cx}
def rSumT (K : PySem.W.Frag) : List V → Hp → VK → Prop := fun vs H Q => ∃ (a : Addr) (ns : List Int), vs = [V.ref a] ∧ SqT K H a (ns.map V.int) ∧ Q (.int ns.sum) H
theorem cr_sumT (hc : X.calm = true) : CallR X (.builtin "sum") (rSumT X.K) := fun pins s σ H vs us Q I r ⟨a, ns, ev, tup, q⟩ => by
  subst ev
  rw [Vals.ref1 r]
  obtain ⟨its, rv, here, _⟩ := I.tuple tup
  obtain ⟨xs, e⟩ := rv.ints.allInts.items
  have nums : numsOf (intItems xs).toList = ns := e ▸ rv.ints.numsOf
  rw [nums_intItems] at nums
  have here : s.heap.IsTuple a (intItems xs) := e ▸ here
  have young : a < s.heap.objs.size := here.elim fun _ z => Heap.lt_size z.1
  refine call_sum_walkG (wpAny_pyIter_tuple here ⟨_, _, _, _, _, _, numAt xs, rfl, Walks.tuple (A := X.A.in1) (show X.A.in1.handled = none from I.ok.hd hc) _ a (Nat.ne_of_lt young) (intItems xs), ⟨⟨_, Heap.get?_push_size _ rfl, rfl, rfl⟩, here.push _⟩, fun b m => ?_, fun _ _ => intItems_at, fun h' tk t' kept => ?_⟩)
  · simp only [List.mem_cons, List.not_mem_nil, or_false] at m
    show b < (s.heap.push _).objs.size
    rw [Heap.size_push]
    rcases m with rfl | rfl
    · exact Nat.lt_succ_self _
    · exact Nat.lt_succ_of_lt young
  · have all : (intItems xs).size = xs.size := by simp [intItems]
    rw [all, preSum_eq, List.take_of_length_le (by simp), nums]
    exact ⟨.int _, H, I.kept fun b o z => kept b o (fun m => Nat.lt_irrefl _ (List.mem_singleton.mp m ▸ Heap.lt_size z)) (Heap.get?_push_of_some _ z), ⟨_, rfl⟩, q⟩
theorem cr_sumTK (K : PySem.W.Frag) (hc : X.calm = true) (h : X.K = K := by rfl) : CallR X (.builtin "sum") (rSumT K) := h ▸ cr_sumT hc
end
variable {K : PySem.W.Frag} {C : Addr} {H H' H1 H2 H3 : Hp} {v w x y : V} {vs : List V} {d e : PyData} {ds es : List PyData}
variable {S : List Addr} {G : List (V × PyData)} {H0 : Hp} {σ σ2 : L2.St} {Γ Γ2 : List Ct} {i j k l m b : Nat} {c : Ct} {te ta tb tc tl ty td tv : TE} {t u : TT} {ts ts1 : TA}
variable {D : Ends} {tu tw tz : TS} {p q f : Addr} {E : XK} {P : Program} {W : World}
theorem ev_sumT {ns : List Int} (h : EvC K C te σ H (.d (row ns))) : EvC K C (tCB (rSumT K) (tCons te tNil)) σ H (.d (.int ns.sum)) := ev_cb (ea_cons h ea_nil) fun H1 _ vs a Q q => by
  obtain ⟨v, rfl, a1⟩ := a.one
  obtain ⟨p, rfl, s⟩ := row_of a1
  exact ⟨p, ns, rfl, s.sq, q _ H1 (Same.refl H1) (.int _)⟩
theorem ev_sumN {ns : List Int} (h : EvN K C te σ H (iL ns)) : EvC K C (tCB (rSum K) (tCons te tNil)) σ H (.d (.int ns.sum)) := ev_cb (ea_consN h ea_nil) fun H1 _ vs a Q q => by
  obtain ⟨v, rfl, p, xs, rfl, s, t⟩ := a.one
  rw [t.iL_of] at s
  exact ⟨p, ns, rfl, SqL.of s, q _ H1 (Same.refl H1) (.int _)⟩
theorem cr_sumK {X : Cx} (K : PySem.W.Frag) (hc : X.calm = true) (h : X.K = K := by rfl) : CallR X (.builtin "sum") (rSum K) := h ▸ cr_sum hc
theorem inner_rng {Dl : Addr} {done : List PyData} {n : Nat} (w3 : Wd K C S G H0 H2 σ2 Γ2) (c : Cw K H2 Dl done H3) (hn : EvA K C ts1 σ2 H2 [.c (.d (.int (n : Nat)))]) (hb : n ≤ 10000) (g : Nat → PyData) (hd : done.length ≤ 1000000)
    (he : ∀ y : Nat, y < n → ∀ σ1 H1, Wd K C S G H0 H1 σ1 ((Γ2.set j .u).set j (.d (.int (y : Nat)))) → EvC K C te σ1 H1 (.d (g y))) {Nx : Hp → Prop} (k : ∀ H', Cw K H2 Dl (done ++ (List.range n).map g) H' → Nx H') :
    iRng1 ts1 σ2 H3 fun J1 H4 => ∃ W1 : Nat → Nat → Hp → Prop, (∃ m, W1 0 m H4) ∧ ∀ j1 k1 H, W1 j1 k1 H →
      (J1.stop j1 H ∧ Nx H) ∨ (J1.go j1 H ∧ ∃ Nx1 : Hp → Prop, (∀ H', Nx1 H' → ∃ k', k' < k1 ∧ W1 (j1 + 1) k' H') ∧ ∀ x H', J1.yld j1 H x H' → gName j x (wipe σ2 [j]) H' fun σ3 H5 => wipe σ3 [j] = wipe σ2 [j] ∧ tYes σ3 H5 fun b H6 =>
        if b = true then te σ3 H6 fun y H7 => ∃ acc, H7 Dl = some (.lst acc) ∧ acc.length < sizeLine ∧ Nx1 (L2.upd H7 Dl (.lst (acc ++ [y]))) else Nx1 H6) :=
  hn H3 c.2.1 _ fun vs H4 e4 a => by
    obtain ⟨v, rfl, a1⟩ := a.one
    rw [Td.int_of a1]
    refine ⟨(n : Nat), rfl, by omega, by omega, ?_⟩
    rw [Int.toNat_natCast]
    refine ⟨fun h m H5 => m = n - h ∧ h ≤ n ∧ Cw K H2 Dl (done ++ (List.range h).map g) H5, ⟨n, by simp, Nat.zero_le _, by simpa using c.mono e4⟩, ?_⟩
    rintro h m H5 ⟨rfl, hh, c5⟩
    by_cases hlt : h < n
    · refine .inr ⟨hlt, fun H' => Cw K H2 Dl (done ++ (List.range (h + 1)).map g) H', fun H' p' => ⟨n - (h + 1), by omega, rfl, hlt, p'⟩, fun x H'' y => ?_⟩
      obtain ⟨rfl, rfl⟩ := y
      show wipe ((wipe σ2 [j]).set j (some (.int (0 + (h : Int))))) [j] = wipe σ2 [j] ∧ _
      refine ⟨wipe1 σ2 j _, ?_⟩
      have w4 : Wd K C S G H0 H2 ((wipe σ2 [j]).set j (some (.int (0 + (h : Int))))) ((Γ2.set j .u).set j (.d (.int (h : Nat)))) := (w3.wiped j).set j (by rw [Int.zero_add]; exact .int _)
      have z := cw_turn (C := C) (te := te) (t := tYes) (b := true) (d := g h) c5 (by rw [List.length_append, List.length_map, List.length_range]; omega) et_yes fun _ => he h hlt _ _ w4
      rw [if_pos rfl] at z
      have e3 : done ++ (List.range (h + 1)).map g = done ++ (List.range h).map g ++ [g h] := by
        rw [List.range_succ, List.map_append, List.append_assoc]
        rfl
      rw [e3]
      exact z
    · have e : h = n := by omega
      subst e
      exact .inl ⟨Nat.le_refl _, k _ c5⟩
theorem flat_len {α : Type} (cnt : α → Nat) (g : α → Nat → PyData) (B : Nat) : ∀ u : List α, (∀ x ∈ u, cnt x ≤ B) → ((u.map fun x => (List.range (cnt x)).map (g x)).flatten).length ≤ u.length * B
  | [], _ => by simp
  | x :: u, h => by
    rw [List.map_cons, List.flatten_cons, List.length_append, List.length_map, List.length_range, List.length_cons, Nat.succ_mul]
    have := flat_len cnt g B u fun y hy => h y (List.mem_cons_of_mem _ hy)
    have := h x List.mem_cons_self
    omega
theorem en_lc2LR {α : Type} {l : List α} {mk : α → PyData} {cnt : α → Nat} (hij : i ≠ j) (w : Wd K C S G H0 H σ Γ) (hl : EvC K C tl σ H (.s p (l.map mk))) (g : α → Nat → PyData) (hz : l.length ≤ 10000) (hcn : ∀ x ∈ l, cnt x ≤ 100)
    (hn : ∀ x ∈ l, ∀ σ1 H1, Wd K C S G H0 H1 σ1 (((Γ.set j .u).set i .u).set i (.d (mk x))) → EvA K C ts1 σ1 H1 [.c (.d (.int (cnt x : Nat)))])
    (he : ∀ x ∈ l, ∀ y : Nat, y < cnt x → ∀ σ1 H1, Wd K C S G H0 H1 σ1 (((((Γ.set j .u).set i .u).set i (.d (mk x))).set j .u).set j (.d (.int (y : Nat)))) → EvC K C te σ1 H1 (.d (g x y))) :
    EvN K C (tLc2 (iList K tl) (gName i) tYes (iRng1 ts1) (gName j) tYes te [i, j] [j]) σ H ((l.map fun x => (List.range (cnt x)).map (g x)).flatten) := fun H1 e1 Q q => hl H1 e1 _ fun v H2 e2 a => by
  obtain ⟨rfl, xs, sp, td⟩ := a
  have len : xs.length = l.length := by rw [td.length, List.length_map]
  have w2 := w.mono (e1.trans e2)
  refine ⟨p, rfl, ⟨_, SqL.of sp⟩, fun Dl hD => ?_⟩
  refine ⟨fun k n H' => n = l.length - k ∧ k ≤ l.length ∧ Cw K H2 Dl (((l.take k).map fun x => (List.range (cnt x)).map (g x)).flatten) H', ⟨l.length, by simp, Nat.zero_le _, Cw.start hD⟩, ?_⟩
  rintro k n H' ⟨rfl, hk, c⟩
  have sp' : H' p = some (.lst xs) := c.2.1 _ _ sp
  by_cases hlt : k < l.length
  · have hx : k < xs.length := by omega
    refine .inr ⟨⟨xs, xs[k], SqL.of sp', List.getElem?_eq_getElem hx⟩, fun H' => Cw K H2 Dl (((l.take (k + 1)).map fun x => (List.range (cnt x)).map (g x)).flatten) H', fun H' p' => ⟨l.length - (k + 1), by omega, rfl, hlt, p'⟩, fun x H'' y => ?_⟩
    obtain ⟨rfl, y⟩ := y
    obtain ⟨d, h1, h2⟩ := td.get' (y _ (SqL.of sp'))
    have ed : d = mk l[k] := by rw [List.getElem?_map, List.getElem?_eq_getElem hlt] at h1; exact (Option.some.inj h1).symm
    subst ed
    have mm : l[k] ∈ l := List.getElem_mem hlt
    have htk : ((l.take (k + 1)).map fun x => (List.range (cnt x)).map (g x)).flatten = ((l.take k).map fun x => (List.range (cnt x)).map (g x)).flatten ++ (List.range (cnt l[k])).map (g l[k]) := by
      rw [List.take_succ_eq_append_getElem hlt, List.map_append, List.flatten_append]
      simp
    have hlk := flat_len cnt g 100 (l.take k) fun x hx => hcn x (List.mem_of_mem_take hx)
    have hlk2 : (l.take k).length ≤ 10000 := by rw [List.length_take]; omega
    rw [htk]
    generalize ((l.take k).map fun x => (List.range (cnt x)).map (g x)).flatten = done at c hlk
    show wipe ((wipe σ [i, j]).set i (some x)) [i, j] = wipe σ [i, j] ∧ _
    refine ⟨wipe_one2 σ hij _, ?_⟩
    have w3 : Wd K C S G H0 H2 ((wipe σ [i, j]).set i (some x)) (((Γ.set j .u).set i .u).set i (.d (mk l[k]))) := (w2.wiped2 i j).set i (c := .d (mk l[k])) h2
    unfold tYes
    dsimp only
    rw [if_pos rfl]
    exact inner_rng w3 c (hn _ mm _ _ w3) (by have := hcn _ mm; omega) (g l[k]) (by omega) (fun y hy σ1 H1 w4 => he _ mm y hy σ1 H1 w4) fun H' c' => c'
  · have e : k = l.length := by omega
    subst e
    rw [List.take_length] at c
    obtain ⟨c1, c2, acc, c3, c4⟩ := c
    exact .inl ⟨⟨xs, SqL.of sp', by omega⟩, q Dl H' (e2.free c1) (e2.trans c2) ⟨rfl, acc, c3, c4⟩⟩
theorem wipe_two3 (σ : L2.St) {i j l : Nat} (h1 : i ≠ j) (h2 : i ≠ l) (h3 : j ≠ l) (x y : Option V) : wipe (((wipe σ [i, j, l]).set i x).set j y) [i, j, l] = wipe σ [i, j, l] := by
  have e := wipe3 σ h1 h2 h3 x y none
  have z : (((wipe σ [i, j, l]).set i x).set j y).set l none = ((wipe σ [i, j, l]).set i x).set j y := by
    refine List.ext_getElem? fun k => ?_
    simp only [wipe, List.getElem?_set, List.length_set]
    by_cases g3 : l = k
    · subst g3
      simp [h2, h3]
    · simp [g3]
  rw [z] at e
  exact e
theorem en_lc2ER {r : List Int} {cnt : Nat → Nat} (h1 : i ≠ j) (h2 : i ≠ l) (h3 : j ≠ l) (w : Wd K C S G H0 H σ Γ) (hl : EvC K C tl σ H (.d (row r))) (g : Nat → Nat → PyData) (hz : r.length ≤ 10000) (hcn : ∀ k < r.length, cnt k ≤ 100)
    (hn : ∀ k, ∀ hk : k < r.length, ∀ σ1 H1, Wd K C S G H0 H1 σ1 (((((Γ.set l .u).set j .u).set i .u).set i (.d (.int (k : Nat)))).set j (.d (.int r[k]))) → EvA K C ts1 σ1 H1 [.c (.d (.int (cnt k : Nat)))])
    (he : ∀ k, ∀ hk : k < r.length, ∀ y : Nat, y < cnt k → ∀ σ1 H1, Wd K C S G H0 H1 σ1 (((((((Γ.set l .u).set j .u).set i .u).set i (.d (.int (k : Nat)))).set j (.d (.int r[k]))).set l .u).set l (.d (.int (y : Nat)))) → EvC K C te σ1 H1 (.d (g k y))) :
    EvN K C (tLc2 (iEnumT K (tCons tl tNil)) (gTup K 2 (gCons (gName i) (gCons (gName j) gNil))) tYes (iRng1 ts1) (gName l) tYes te [i, j, l] [l]) σ H (((List.range r.length).map fun k => (List.range (cnt k)).map (g k)).flatten) := fun H1 e1 Q q => hl H1 e1 _ fun v H2 e2 a => by
  obtain ⟨p, rfl, sp⟩ := row_of a
  have w2 := w.mono (e1.trans e2)
  refine ⟨p, _, rfl, sp.sq, fun Dl hD => ?_⟩
  refine ⟨fun k n H' => n = r.length - k ∧ k ≤ r.length ∧ Cw K H2 Dl (((List.range k).map fun k => (List.range (cnt k)).map (g k)).flatten) H', ⟨r.length, by simp, Nat.zero_le _, Cw.start hD⟩, ?_⟩
  rintro k n H' ⟨rfl, hk, c⟩
  have sp' : SqF H' p (r.map V.int) := (Tx.of c.2.1).sqF sp
  by_cases hlt : k < r.length
  · refine .inr ⟨⟨r.map V.int, .int r[k], sp'.sq, by rw [List.getElem?_map, List.getElem?_eq_getElem hlt]; rfl⟩, fun H' => Cw K H2 Dl (((List.range (k + 1)).map fun k => (List.range (cnt k)).map (g k)).flatten) H', fun H' p' => ⟨r.length - (k + 1), by omega, rfl, hlt, p'⟩, fun x H'' y => ?_⟩
    obtain ⟨T, x, rfl, nT, rfl, y⟩ := y
    have hx := y.2 _ sp'.sq
    rw [List.getElem?_map, List.getElem?_eq_getElem hlt] at hx
    obtain rfl : V.int r[k] = x := Option.some.inj hx
    have htk : ((List.range (k + 1)).map fun k => (List.range (cnt k)).map (g k)).flatten = ((List.range k).map fun k => (List.range (cnt k)).map (g k)).flatten ++ (List.range (cnt k)).map (g k) := by
      rw [List.range_succ, List.map_append, List.flatten_append]
      simp
    have hlk := flat_len cnt g 100 (List.range k) fun x hx => hcn x (by have := List.mem_range.mp hx; omega)
    rw [List.length_range] at hlk
    rw [htk]
    generalize ((List.range k).map fun k => (List.range (cnt k)).map (g k)).flatten = done at c hlk
    refine ⟨T, _, rfl, SqT.of upd_same, rfl, _, _, rfl, _, _, rfl, rfl, ?_⟩
    refine ⟨wipe_two3 σ h1 h2 h3 _ _, ?_⟩
    have w3 : Wd K C S G H0 H2 (((wipe σ [i, j, l]).set i (some (.int (k : Nat)))).set j (some (.int r[k]))) (((((Γ.set l .u).set j .u).set i .u).set i (.d (.int (k : Nat)))).set j (.d (.int r[k]))) := ((w2.wiped3 i j l).set i (c := .d (.int (k : Nat))) (Td.int _)).set j (c := .d (.int r[k])) (Td.int _)
    unfold tYes
    dsimp only
    rw [if_pos rfl]
    exact inner_rng w3 (c.mono (same_new (o := .tup [.int (k : Nat), .int r[k]]) nT)) (hn _ hlt _ _ w3) (by have := hcn _ hlt; omega) (g k) (by omega) (fun y hy σ1 H1 w4 => he _ hlt y hy σ1 H1 w4) fun H' c' => c'
  · have e : k = r.length := by omega
    subst e
    obtain ⟨c1, c2, acc, c3, c4⟩ := c
    exact .inl ⟨⟨_, sp'.sq, by rw [List.length_map]; exact Nat.le_refl _⟩, q Dl H' (e2.free c1) (e2.trans c2) ⟨rfl, acc, c3, c4⟩⟩
theorem en_lc3S {α : Type} {l' : List α} {mk1 mk2 mk3 : α → PyData} (h1 : i ≠ j) (h2 : i ≠ l) (h3 : j ≠ l) (w : Wd K C S G H0 H σ Γ) (hl : EvC K C tl σ H (.s p (l'.map fun a => .tuple [mk1 a, mk2 a, mk3 a]))) (f : α → Bool) (g : α → PyData) (hz : l'.length < 10000000)
    (ht : ∀ x ∈ l', ∀ σ1 H1, Wd K C S G H0 H1 σ1 ((((((Γ.set l .u).set j .u).set i .u).set i (.d (mk1 x))).set j (.d (mk2 x))).set l (.d (mk3 x))) → EvT t σ1 H1 (f x)) (he : ∀ x ∈ l', ∀ σ1 H1, Wd K C S G H0 H1 σ1 ((((((Γ.set l .u).set j .u).set i .u).set i (.d (mk1 x))).set j (.d (mk2 x))).set l (.d (mk3 x))) → f x = true → EvC K C te σ1 H1 (.d (g x))) :
    EvN K C (tLc (iList K tl) (gTup K 3 (gCons (gName i) (gCons (gName j) (gCons (gName l) gNil)))) t te [i, j, l]) σ H (kept f g l') := fun H1 e1 Q q => hl H1 e1 _ fun v H2 e2 a => by
  obtain ⟨rfl, xs, s, td⟩ := a
  have len : xs.length = l'.length := by rw [td.length, List.length_map]
  refine ⟨p, rfl, ⟨xs, SqL.of s⟩, fun Dl hD => lc_list (xs := xs) (fun k H' => Cw K H2 Dl (kept f g (l'.take k)) H') (by rw [List.take_zero]; exact Cw.start hD) (fun k H' _ c => SqL.of (c.2.1 _ _ s)) (fun k x H' hk c => ?_) (fun H' c => ?_)⟩
  · have hk' : k < l'.length := by rw [← len]; exact (List.getElem?_eq_some_iff.mp hk).1
    have ek : l'[k]? = some l'[k] := List.getElem?_eq_getElem hk'
    obtain ⟨d, g1, g2⟩ := td.get' hk
    have ed : d = .tuple [mk1 l'[k], mk2 l'[k], mk3 l'[k]] := by rw [List.getElem?_map, ek] at g1; exact (Option.some.inj g1).symm
    subst ed
    obtain ⟨a, ys, rfl, sa, ta⟩ := Td.tup_of g2
    obtain ⟨y1, y2, y3, rfl, t1, t2, t3⟩ : ∃ y1 y2 y3, ys = [y1, y2, y3] ∧ Td K H2 y1 (mk1 l'[k]) ∧ Td K H2 y2 (mk2 l'[k]) ∧ Td K H2 y3 (mk3 l'[k]) := by
      cases ta with
      | cons t1 r => cases r with
        | cons t2 r => cases r with
          | cons t3 r => cases r; exact ⟨_, _, _, rfl, t1, t2, t3⟩
    have w2 : Wd K C S G H0 H2 ((((wipe σ [i, j, l]).set i (some y1)).set j (some y2)).set l (some y3)) ((((((Γ.set l .u).set j .u).set i .u).set i (.d (mk1 l'[k]))).set j (.d (mk2 l'[k]))).set l (.d (mk3 l'[k]))) := ((((w.mono (e1.trans e2)).wiped3 i j l).set i (c := .d (mk1 l'[k])) t1).set j (c := .d (mk2 l'[k])) t2).set l (c := .d (mk3 l'[k])) t3
    have m : l'[k] ∈ l' := List.getElem_mem hk'
    refine ⟨a, _, rfl, ((Tx.of c.2.1).sqF sa).sq, rfl, _, _, rfl, _, _, rfl, _, _, rfl, rfl, ?_⟩
    refine ⟨wipe3 σ h1 h2 h3 _ _ _, ?_⟩
    have z := cw_turn (C := C) (te := te) (d := g l'[k]) c (Nat.lt_of_le_of_lt kept_len hz) (ht _ m _ _ w2) (he _ m _ _ w2)
    rw [← kept_step ek] at z
    exact z
  · rw [len, List.take_length] at c
    obtain ⟨c1, c2, acc, c3, c4⟩ := c
    exact q Dl H' (e2.free c1) (e2.trans c2) ⟨rfl, acc, c3, c4⟩
end Pt
namespace Pt
open PySem PySem.Spec PyProof.Rows L2
abbrev RR := List Int × List Int
def numsK (l : List Int) : NestedKey := .tup (l.map .num)
def nkey (k : RR) : NestedKey := .tup [numsK k.1, numsK k.2]
theorem nums_inj : ∀ {l m : List Int}, l.map NestedKey.num = m.map NestedKey.num → l = m
  | [], [], _ => rfl
  | [], _ :: _, h => by cases h
  | _ :: _, [], h => by cases h
  | a :: l, b :: m, h => by
    rw [List.map_cons, List.map_cons] at h
    injection h with h1 h2
    injection h1 with h1
    rw [h1, nums_inj h2]
theorem nkey_inj {k m : RR} (h : nkey k = nkey m) : k = m := by
  unfold nkey numsK at h
  injection h with h
  injection h with h1 h2
  injection h1 with h1
  injection h2 with h2 _
  injection h2 with h2
  exact Prod.ext (nums_inj h1) (nums_inj h2)
theorem nums_depth : ∀ l : List Int, NestedKey.depthAll (l.map .num) = 0
  | [] => rfl
  | a :: l => by
    show max 0 (NestedKey.depthAll (l.map .num)) = 0
    rw [nums_depth l]
    rfl
theorem nkey_depth (k : RR) : (nkey k).depth ≤ 8 := by
  show max (NestedKey.depthAll (k.1.map .num) + 1) (max (NestedKey.depthAll (k.2.map .num) + 1) 0) + 1 ≤ 8
  rw [nums_depth, nums_depth]
  decide
abbrev nk (P : Program) (w : World) := nestedKind P w
def KeyAt (H : Hp) (b : Addr) (k : RR) : Prop := ∃ b1 b2, SqF H b [.ref b1, .ref b2] ∧ SqF H b1 (k.1.map V.int) ∧ SqF H b2 (k.2.map V.int)
abbrev EnN := RR × V × Addr
def EntsN (es : List EnN) (xs : List (NestedKey × Addr × Value)) : Prop := Paired (fun (e : EnN) (q : NestedKey × Addr × Value) => q.1 = nkey e.1 ∧ q.2.1 = e.2.2 ∧ RelV e.2.1 q.2.2) es xs
def DTn (P : Program) (w : World) (a : Addr) (es : List EnN) : HO := .ext fun h => (a == sysModules) = false ∧ ∃ xs, EntsN es xs ∧ ∃ o ent ep, h.get? a = some o ∧ o.ExactDict ∧ o.data = .dict ent ep ∧ ent.toList = xs.map (entryOfKey (nk P w)) ∧ (xs.map (·.1)).Nodup
def lookN (es : List EnN) (k : RR) : Option V := (es.find? fun e => decide (e.1 = k)).map (·.2.1)
def putN (es : List EnN) (k : RR) (v : V) (b : Addr) : List EnN := if (lookN es k).isSome then es.map (fun e => if e.1 = k then (e.1, v, e.2.2) else e) else es ++ [(k, v, b)]
theorem EntsN.val {es : List EnN} {xs : List (NestedKey × Addr × Value)} (r : EntsN es xs) (k : RR) : RelO (lookN es k) ((atKey xs (nkey k)).map (·.2)) := by
  unfold EntsN at r
  induction r with
  | nil => exact True.intro
  | @cons p q ps qs h t ih =>
    obtain ⟨h1, _, h2⟩ := h
    by_cases e : p.1 = k
    · have e' : q.1 = nkey k := by rw [h1, e]
      have a : lookN (p :: ps) k = some p.2.1 := by simp [lookN, List.find?_cons, e]
      have b : atKey (q :: qs) (nkey k) = some q.2 := by simp [atKey, List.find?_cons, e']
      rw [a, b]; exact h2
    · have e' : ¬ q.1 = nkey k := fun z => e (nkey_inj (h1.symm.trans z))
      have a : lookN (p :: ps) k = lookN ps k := by simp [lookN, List.find?_cons, e]
      have b : atKey (q :: qs) (nkey k) = atKey qs (nkey k) := by simp [atKey, List.find?_cons, e']
      rw [a, b]; exact ih
theorem EntsN.len {es : List EnN} {xs : List (NestedKey × Addr × Value)} (r : EntsN es xs) : es.length = xs.length := Paired.length r
theorem EntsN.isSome {es : List EnN} {xs : List (NestedKey × Addr × Value)} (r : EntsN es xs) (k : RR) : (lookN es k).isSome = (atKey xs (nkey k)).isSome := by
  have q := (r.val k).isSome_eq
  rw [Option.isSome_map] at q
  exact q
theorem lookN_none {en : List EnN} {r : RR} (h : lookN en r = none) : r ∉ en.map (·.1) := fun m => by
  obtain ⟨e, m', rfl⟩ := List.mem_map.mp m
  unfold lookN at h
  rw [Option.map_eq_none_iff, List.find?_eq_none] at h
  exact h e m' (by simp)
theorem lookN_some {en : List EnN} {r : RR} (h : r ∈ en.map (·.1)) : ∃ x, lookN en r = some x := by
  cases e : lookN en r with
  | none => exact absurd h (lookN_none e)
  | some x => exact ⟨x, rfl⟩
theorem lookN_iff (en : List EnN) (r : RR) : (lookN en r).isSome = decide (r ∈ en.map (·.1)) := by
  by_cases h : r ∈ en.map (·.1)
  · obtain ⟨x, e⟩ := lookN_some h
    rw [e, decide_eq_true h]; rfl
  · rw [decide_eq_false h]
    cases e : lookN en r with
    | none => rfl
    | some x =>
      unfold lookN at e
      obtain ⟨q, hq, _⟩ := Option.map_eq_some_iff.mp e
      have e1 : q.1 = r := by simpa using List.find?_some hq
      exact absurd (List.mem_map.mpr ⟨q, List.mem_of_find?_eq_some hq, e1⟩) h
theorem putN_new {en : List EnN} {r : RR} (h : r ∉ en.map (·.1)) (v : V) (b : Addr) : putN en r v b = en ++ [(r, v, b)] := by
  unfold putN
  rw [lookN_iff, decide_eq_false h]
  rfl
theorem putN_keys (en : List EnN) (r : RR) (v : V) (b : Addr) : (putN en r v b).map (·.1) = if r ∈ en.map (·.1) then en.map (·.1) else en.map (·.1) ++ [r] := by
  unfold putN
  rw [lookN_iff]
  by_cases h : r ∈ en.map (·.1)
  · rw [decide_eq_true h, if_pos rfl, if_pos h, List.map_map]
    refine List.map_congr_left fun e _ => ?_
    show (if e.1 = r then (e.1, v, e.2.2) else e).1 = e.1
    split <;> rfl
  · rw [decide_eq_false h, if_neg Bool.false_ne_true, if_neg h, List.map_append]
    rfl
theorem EntsN.putMap {k : RR} {v : V} {u : Value} (hu : RelV v u) : ∀ {es : List EnN} {xs : List (NestedKey × Addr × Value)}, EntsN es xs → EntsN (es.map (fun e => if e.1 = k then (e.1, v, e.2.2) else e)) (xs.map (putAt (nkey k) u))
  | _, _, .nil => .nil
  | _, _, @Paired.cons _ _ _ p q ps qs h t => by
    refine Paired.cons ?_ (EntsN.putMap hu t)
    obtain ⟨h1, h2, h3⟩ := h
    unfold putAt
    by_cases e : p.1 = k
    · simp only [if_pos e, if_pos (show q.1 = nkey k by rw [h1, e])]
      exact ⟨h1, h2, hu⟩
    · simp only [if_neg e, if_neg (show ¬ q.1 = nkey k from fun z => e (nkey_inj (h1.symm.trans z)))]
      exact ⟨h1, h2, h3⟩
theorem EntsN.put {es : List EnN} {xs : List (NestedKey × Addr × Value)} (r : EntsN es xs) {k : RR} {v : V} {b : Addr} {u : Value} (hu : RelV v u) : EntsN (putN es k v b) (storedH xs (nkey k) b u) := by
  unfold putN storedH
  rw [r.isSome k]
  split
  · exact r.putMap hu
  · exact Paired.snoc r ⟨rfl, rfl, hu⟩
section
variable {X : Cx} {pins : List (Addr × Obj)} {σ : L2.St} {H : Hp} {s : Shared} {a b : Addr} {A : Around} {E : Value → Shared → Prop}
theorem nums_at {h : Heap} : ∀ {l : List Int} {us : List Value}, Vals (l.map V.int) us → NestedAll h (l.map .num) us
  | [], _, .nil => .nil
  | n :: l, _, .cons r t => by
    obtain ⟨tk, rfl⟩ := r
    exact .cons (.int n tk) (nums_at t)
theorem numsK_at {P : Program} {w : World} {h : Heap} {l : List Int} {b : Addr} (ok : HOk P w H h) (e : SqF H b (l.map V.int)) : NestedIs h (numsK l) (.ref b) := by
  obtain ⟨ob, e, _⟩ := e
  obtain ⟨h0, _, its, r, o, h1, h2, n, h3⟩ := (show ObjOk P w H h b (.frz ob (.tup (l.map V.int))) from ok b _ e)
  exact .tup h1 h2 h3 (by simpa using nums_at r)
theorem keyN {P : Program} {w : World} {h : Heap} {k : RR} {b : Addr} (ok : HOk P w H h) (e : KeyAt H b k) : (nk P w).is h (nkey k) b := by
  obtain ⟨b1, b2, ⟨ob, e, _⟩, e1, e2⟩ := e
  obtain ⟨h0, _, its, r, o, h1, h2, n, h3⟩ := (show ObjOk P w H h b (.frz ob (.tup [.ref b1, .ref b2])) from ok b _ e)
  refine ⟨.tup h1 h2 h3 ?_, nkey_depth k⟩
  cases r with
  | cons r1 r =>
    cases r with
    | cons r2 r =>
      cases r
      cases r1
      cases r2
      simpa using NestedAll.cons (numsK_at ok e1) (.cons (numsK_at ok e2) .nil)
theorem dtn {es : List EnN} (I : Inv X pins σ H s) (e : H a = some (DTn X.prog X.w a es)) (hk : ∀ q ∈ es, KeyAt H q.2.2 q.1) : (a == sysModules) = false ∧ ∃ xs, EntsN es xs ∧ s.heap.DictOfH (nk X.prog X.w) a xs := by
  obtain ⟨⟨hd, xs, r, o, ent, ep, h1, h2, h3, h4, h5⟩, _, _⟩ := (show ObjOk X.prog X.w H s.heap a (DTn X.prog X.w a es) from I.hok a _ e)
  refine ⟨hd, xs, r, o, ent, ep, h1, h2, h3, h4, ?_, h5⟩
  have all : ∀ {l : List EnN} {m : List (NestedKey × Addr × Value)}, EntsN l m → (∀ q ∈ l, KeyAt H q.2.2 q.1) → ∀ x ∈ m, (nk X.prog X.w).is s.heap x.1 x.2.1 := by
    intro l m q
    unfold EntsN at q
    induction q with
    | nil => intro _ x hx; exact nomatch hx
    | @cons p q ps qs hq t ih =>
      intro hk x hx
      rcases List.mem_cons.mp hx with e | hx
      · subst e
        rw [hq.1, hq.2.1]
        exact keyN I.hok (hk p List.mem_cons_self)
      · exact ih (fun q m => hk q (List.mem_cons_of_mem _ m)) x hx
  exact all r hk
theorem dtn_ok {P : Program} {w : World} {h : Heap} {es : List EnN} (hd : (a == sysModules) = false) {xs : List (NestedKey × Addr × Value)} (r : EntsN es xs) {o : Obj} {ent : Array DictEntry} {ep : Nat} (h1 : h.get? a = some o) (h2 : o.ExactDict) (h3 : o.data = .dict ent ep) (h4 : ent.toList = xs.map (entryOfKey (nk P w))) (h5 : (xs.map (·.1)).Nodup) : ObjOk P w H h a (DTn P w a es) :=
  ⟨⟨hd, xs, r, o, ent, ep, h1, h2, h3, h4, h5⟩, ⟨o, h1⟩, fun _ _ ⟨hd, xs, r, o, ent, ep, h1, h2, h3, h4, h5⟩ k => ⟨hd, xs, r, o, ent, ep, k _ h1, h2, h3, h4, h5⟩⟩
end
def sPutN (P : Program) (w : World) (td ty tv : TE) : TS := fun D σ H => tv σ H fun v H1 => td σ H1 fun x H2 => ty σ H2 fun y H3 => ∃ a b es k, x = .ref a ∧ y = .ref b ∧ H3 a = some (DTn P w a es) ∧ (∀ q ∈ es, KeyAt H3 q.2.2 q.1) ∧ KeyAt H3 b k ∧ es.length < sizeLine ∧
  D.nx σ (L2.upd H3 a (DTn P w a (putN es k v b)))
def tDispN (P : Program) (w : World) (ty tv : TE) : TE := fun σ H Q => ∀ p, H p = none → ty σ (L2.upd H p (DTn P w p [])) fun y H1 => tv σ H1 fun v H2 => ∃ b k, y = .ref b ∧ H2 p = some (DTn P w p []) ∧ KeyAt H2 b k ∧ Q (.ref p) (L2.upd H2 p (DTn P w p [(k, v, b)]))
def tDNewN (P : Program) (w : World) : TE := fun σ H Q => ∀ p, H p = none → Q (.ref p) (L2.upd H p (DTn P w p []))
section
variable {X : Cx} {o i e value : Expr} {pos pos' : Pos} {td ty tv : TE}
theorem ps_dputN (hu : X.A.in1.units + 8 < cLine) (ho : PE X o td) (hi : PE X i ty) (hv : PE X value tv) (hs : swapsWith value (some (.Subscript o i pos')) pos.line X.env = pure false) :
    PS X (.Assign [.Subscript o i pos'] value pos) (sPutN X.prog X.w td ty tv) := by
  refine ps_at (W := fun x y v H3 Q => ∃ a b es k, x = .ref a ∧ y = .ref b ∧ H3 a = some (DTn X.prog X.w a es) ∧ (∀ q ∈ es, KeyAt H3 q.2.2 q.1) ∧ KeyAt H3 b k ∧ es.length < sizeLine ∧ Q (L2.upd H3 a (DTn X.prog X.w a (putN es k v b)))) (fun pins s3 σ H3 x y v u iv r Q I3 rx ry rv ⟨a, b, es, k, ex, ey, e, hk, sk, hz, q3⟩ => ?_) ho hi hv hs
  subst ex ey
  obtain rfl : u = Value.ref a := rx
  obtain rfl : iv = Value.ref b := ry
  obtain ⟨hd, xs, rel, dd⟩ := dtn I3 e hk
  have hl := rel.len
  refine wpAny_setItem_heap (knd := nk X.prog X.w) (hsz := by omega) hu (keyN I3.hok sk) dd fun h' dd' hs => ?_
  obtain ⟨q, ent, ep, hq, h2, h3, h4, _, h5⟩ := dd'
  exact ⟨_, d_write I3 (by rw [e]; exact True.intro) hs ⟨q, hq⟩ (dtn_ok hd (rel.put rv) hq h2 h3 h4 h5), q3⟩
theorem pe_dnewN {X : Cx} {pos : Pos} : PE X (.Dict [] [] pos) (tDNewN X.prog X.w) := ⟨fun pins s σ H Q I h => by
  have hd : (s.heap.objs.size == sysModules) = false := beq_eq_false_iff_ne.mpr (Ne.symm (Nat.ne_of_lt I.big))
  exact wpAny_Dict_empty ⟨.ref s.heap.objs.size, _, I.laid (a := s.heap.objs.size) (o := DTn X.prog X.w s.heap.objs.size []) (t' := s.toks) (fun _ _ q => Heap.get?_push_of_some _ q) (Nat.le_refl _)
    (dtn_ok hd (xs := []) .nil (Heap.get?_push_size _ rfl) ⟨rfl, rfl, rfl⟩ rfl rfl List.nodup_nil), rfl, h _ (I.hok.fresh (Nat.le_refl _))⟩⟩
theorem pe_dispN (hu : X.A.units + 8 < cLine) (hi : PE X i ty) (hv : PE X value tv) : PE X (.Dict [some i] [value] pos) (tDispN X.prog X.w ty tv) := by
  refine ⟨fun pins s σ H Q I h => ?_⟩
  have hn := I.hok.fresh (Nat.le_refl s.heap.objs.size)
  have hd : (s.heap.objs.size == sysModules) = false := beq_eq_false_iff_ne.mpr (Ne.symm (Nat.ne_of_lt I.big))
  have I1 := I.laid (a := s.heap.objs.size) (o := DTn X.prog X.w s.heap.objs.size []) (h' := s.heap.push { cls := .type "dict", data := .dict #[] }) (t' := s.toks) (fun _ _ q => Heap.get?_push_of_some _ q) (Nat.le_refl _)
    (dtn_ok hd (xs := []) .nil (Heap.get?_push_size _ rfl) ⟨rfl, rfl, rfl⟩ rfl rfl List.nodup_nil)
  refine wpAny_Dict_any rfl rfl (by simp) (by simp) (pairTrees_cons_walk (thn (hi.run pins _ σ _ _ I1 (h _ hn)) fun iv s2 ⟨y, H2, I2, ry, q2⟩ => thn (hv.run pins s2 σ H2 _ I2 q2) fun r s3 ⟨v, H3, I3, rv, b, k, ey, e, sk, q3⟩ => pairTrees_nil_walk ?_))
  subst ey
  obtain rfl : iv = Value.ref b := ry
  obtain ⟨_, xs, rel, dd⟩ := dtn I3 e (fun q m => nomatch m)
  have hx : xs = [] := List.length_eq_zero_iff.mp rel.len.symm
  subst hx
  unfold storeAll
  rw [List.forIn_cons]
  refine wpAny_bind (wpAny_bind (wpAny_dictSet_heap (hsz := by decide) (knd := nk X.prog X.w) hu (keyN I3.hok sk) dd fun h' dd' hs => wpAny_pure ?_))
  show wpAny _ _ (forIn ([] : List (Value × Value)) _ _) _ _ _
  rw [List.forIn_nil]
  have z := rel.put (k := k) (b := b) rv
  obtain ⟨q, ent, ep, hq, h2, h3, h4, _, h5⟩ := dd'
  exact wpAny_pure ⟨.ref s.heap.objs.size, _, d_write I3 (by rw [e]; exact True.intro) hs ⟨q, hq⟩ (dtn_ok hd z hq h2 h3 h4 h5), rfl, q3⟩
end
end Pt
namespace Pt
open PySem PySem.Spec PyProof.Rows L2
def rGetN (P : Program) (w : World) : V → List V → Hp → VK → Prop := fun x xs H Q => ∃ a b es k d, x = .ref a ∧ xs = [.ref b, d] ∧ H a = some (DTn P w a es) ∧ (∀ q ∈ es, KeyAt H q.2.2 q.1) ∧ KeyAt H b k ∧ Q ((lookN es k).getD d) H
theorem mt_getN {X : Cx} (hu : X.A.in1.units + 8 < cLine) : MtR X "dict.get" (rGetN X.prog X.w) := by
  intro pins s σ H x xs v us Q I rx rxs h
  obtain ⟨a, b, es, k, d, rfl, rfl, e, hk, sk, q⟩ := h
  obtain rfl : v = Value.ref a := rx
  cases rxs with
  | cons r1 r =>
    cases r with
    | cons r2 r =>
      cases r
      cases r1
      obtain ⟨hd, xs, rel, dd⟩ := dtn I e hk
      refine call_meetsIn PySem.F.slot_dict_get dd.typeIs PySem.F.entry_dict_get (PySem.F.args_dict_get_3 _ _ _) (meetsH_dict_get_default (nk X.prog X.w) a b hd _) ⟨hu, nkey k, xs, keyN I.hok sk, dd, _, H, I.tok _, (rel.val k).getD r2, q⟩
def Itn (P : Program) (W : World) (d : Addr) (o : Obj) (en : List EnN) : It := ItL (DTn P W d en) d o en.length (fun i x => ∃ e, en[i]? = some e ∧ x = .ref e.2.2)
theorem lkN {P : Program} {w : World} {d : Addr} {o : Obj} {en : List EnN} : Lk P w (DTn P w d en) d o en.length (fun i x => ∃ e, en[i]? = some e ∧ x = .ref e.2.2) (fun i y => ∃ e, en[i]? = some e ∧ y = e.2.1) :=
  lk_of (knd := nk P w) (R := fun (e : EnN) (q : NestedKey × Addr × Value) => q.1 = nkey e.1 ∧ q.2.1 = e.2.2 ∧ RelV e.2.1 q.2.2) (en := en) (fun e : EnN => .ref e.2.2) (fun e : EnN => e.2.1) (fun _ _ r => ⟨congrArg Value.ref r.2.1, r.2.2⟩) fun _ h ok => by
    obtain ⟨⟨main, xs, r, cells⟩, _⟩ := (show ObjOk P w _ h d (DTn P w d en) from ok)
    obtain ⟨ob, ent, ep, h1, h2, h3, h4, _⟩ := cells
    exact ⟨main, xs, r, ob, ent, ep, h1, h2, h3, h4⟩
variable {P : Program} {w : World} {K : PySem.W.Frag}
def iKeysN (P : Program) (W : World) (td : TE) : TI := fun σ H R => td σ H fun x H1 => ∃ d en, x = .ref d ∧ H1 d = some (DTn P W d en) ∧ ∀ o, R (Itn P W d o en) (L2.upd H1 d (.frz o (DTn P W d en)))
theorem pi_keysN {X : Cx} {tg e : Expr} {td : TE} (he : PE X e td) : PI X tg e (iKeysN X.prog X.w td) := ⟨fun pins s σ H R I h => thn (he.run pins s σ H _ I h) fun u s1 ⟨x, H1, I1, rx, d, en, ex, hd, q⟩ => by
  subst ex
  obtain rfl : u = .ref d := rx
  obtain ⟨o, I2⟩ := I1.lock hd True.intro
  exact begin_keysL lkN I2 upd_same (q o)⟩
def IsN (P : Program) (w : World) (H : Hp) (a : Addr) (es : List EnN) : Prop := H a = some (DTn P w a es) ∨ ∃ o, H a = some (.frz o (DTn P w a es))
theorem dtnE {X : Cx} {pins : List (Addr × Obj)} {σ : L2.St} {H : Hp} {s : Shared} {a : Addr} {es : List EnN} (I : Inv X pins σ H s) (e : IsN X.prog X.w H a es) (hk : ∀ q ∈ es, KeyAt H q.2.2 q.1) : (a == sysModules) = false ∧ ∃ xs, EntsN es xs ∧ s.heap.DictOfH (nk X.prog X.w) a xs := by
  rcases e with e | ⟨o0, e⟩
  · exact dtn I e hk
  · obtain ⟨hg, ⟨hd, xs, r, o, ent, ep, h1, h2, h3, h4, h5⟩, _, _⟩ := (show ObjOk X.prog X.w H s.heap a (.frz o0 (DTn X.prog X.w a es)) from I.hok a _ e)
    refine ⟨hd, xs, r, o, ent, ep, h1, h2, h3, h4, ?_, h5⟩
    have all : ∀ {l : List EnN} {m : List (NestedKey × Addr × Value)}, EntsN l m → (∀ q ∈ l, KeyAt H q.2.2 q.1) → ∀ x ∈ m, (nk X.prog X.w).is s.heap x.1 x.2.1 := by
      intro l m q
      unfold EntsN at q
      induction q with
      | nil => intro _ x hx; exact nomatch hx
      | @cons p q ps qs hq t ih =>
        intro hk x hx
        rcases List.mem_cons.mp hx with e | hx
        · subst e
          rw [hq.1, hq.2.1]
          exact keyN I.hok (hk p List.mem_cons_self)
        · exact ih (fun q m => hk q (List.mem_cons_of_mem _ m)) x hx
    exact all r hk
def tGetE (P : Program) (w : World) (td ty : TE) : TE := fun σ H Q => td σ H fun x H1 => ty σ H1 fun y H2 => ∃ a b es k v, x = .ref a ∧ y = .ref b ∧ IsN P w H2 a es ∧ (∀ q ∈ es, KeyAt H2 q.2.2 q.1) ∧ KeyAt H2 b k ∧ lookN es k = some v ∧ Q v H2
theorem pe_dgetE {X : Cx} {o i : Expr} {pos : Pos} {td ty : TE} (hu : X.A.in1.units + 8 < cLine) (ho : PE X o td) (hi : PE X i ty) (hs : NoSl i) : PE X (.Subscript o i pos) (tGetE X.prog X.w td ty) := by
  refine pe_at (fun pins s2 σ H2 x y u iv Q I2 rx ry ⟨a, b, es, k, v, ex, ey, e, hk, sk, l, q2⟩ => ?_) ho hi hs
  subst ex ey
  obtain rfl : u = Value.ref a := rx
  obtain rfl : iv = Value.ref b := ry
  obtain ⟨hd, xs, rel, dd⟩ := dtnE I2 e hk
  obtain ⟨w', hw, rw'⟩ := RelO.some_of (v := v) (o := (atKey xs (nkey k)).map (·.2)) (by have := rel.val k; rw [l] at this; exact this)
  obtain ⟨p, hp, hp2⟩ := Option.map_eq_some_iff.mp hw
  refine ⟨dd.typeIs, wpAny_getItem_heap (knd := nk X.prog X.w) hu (keyN I2.hok sk) dd hp ?_⟩
  rw [hp2]
  exact ⟨v, H2, I2.tok _, rw', q2⟩
theorem pe_dgetEK {X : Cx} (P : Program) (w : World) {o i : Expr} {pos : Pos} {td ty : TE} (hu : X.A.in1.units + 8 < cLine) (ho : PE X o td) (hi : PE X i ty) (hs : NoSl i) (h1 : X.prog = P := by rfl) (h2 : X.w = w := by rfl) : PE X (.Subscript o i pos) (tGetE P w td ty) := by
  subst h1 h2
  exact pe_dgetE hu ho hi hs
theorem pi_keysNK {X : Cx} (P : Program) (w : World) {tg e : Expr} {td : TE} (he : PE X e td) (h1 : X.prog = P := by rfl) (h2 : X.w = w := by rfl) : PI X tg e (iKeysN P w td) := by
  subst h1 h2
  exact pi_keysN he
theorem key_td {K : PySem.W.Frag} {H : Hp} {v : V} {k : RR} (t : Td K H v (.tuple [row k.1, row k.2])) : ∃ b, v = .ref b ∧ KeyAt H b k := by
  obtain ⟨b, xs, rfl, s, ts⟩ := t.tup_of
  cases ts with
  | cons t1 ts =>
    cases ts with
    | cons t2 ts =>
      cases ts
      obtain ⟨b1, rfl, s1⟩ := row_of t1
      obtain ⟨b2, rfl, s2⟩ := row_of t2
      exact ⟨b, rfl, b1, b2, s, s1, s2⟩
theorem key_td2 {K : PySem.W.Frag} {H : Hp} {b : Addr} {k : RR} (h : KeyAt H b k) : Td K H (.ref b) (.tuple [row k.1, row k.2]) := by
  obtain ⟨b1, b2, s, s1, s2⟩ := h
  exact .tup s (.cons (.tup s1 (TdAll.of_iL k.1)) (.cons (.tup s2 (TdAll.of_iL k.2)) .nil))
end Pt
namespace Pt
open PySem PySem.Spec PyProof.Rows L2
theorem pe_dispNK {X : Cx} (P : Program) (w : World) {i value : Expr} {pos : Pos} {ty tv : TE} (hu : X.A.units + 8 < cLine) (hi : PE X i ty) (hv : PE X value tv) (h1 : X.prog = P := by rfl) (h2 : X.w = w := by rfl) : PE X (.Dict [some i] [value] pos) (tDispN P w ty tv) := by
  subst h1 h2
  exact pe_dispN hu hi hv
theorem pe_dnewNK {X : Cx} (P : Program) (w : World) {pos : Pos} (h1 : X.prog = P := by rfl) (h2 : X.w = w := by rfl) : PE X (.Dict [] [] pos) (tDNewN P w) := by
  subst h1 h2
  exact pe_dnewN
theorem ps_dputNK {X : Cx} (P : Program) (w : World) {o i value : Expr} {pos pos' : Pos} {td ty tv : TE} (hu : X.A.in1.units + 8 < cLine) (ho : PE X o td) (hi : PE X i ty) (hv : PE X value tv) (hs : swapsWith value (some (.Subscript o i pos')) pos.line X.env = pure false) (h1 : X.prog = P := by rfl) (h2 : X.w = w := by rfl) :
    PS X (.Assign [.Subscript o i pos'] value pos) (sPutN P w td ty tv) := by
  subst h1 h2
  exact ps_dputN hu ho hi hv hs
theorem mt_getNK {X : Cx} (P : Program) (w : World) (hu : X.A.in1.units + 8 < cLine) (h1 : X.prog = P := by rfl) (h2 : X.w = w := by rfl) : MtR X "dict.get" (rGetN P w) := by
  subst h1 h2
  exact mt_getN hu
def tBMN (P : Program) (w : World) (r : V → List V → Hp → VK → Prop) (to : TE) (t : TA) : TE := fun σ H Q => to σ H fun x H1 => (∃ a es, x = .ref a ∧ H1 a = some (DTn P w a es) ∧ ∀ q ∈ es, KeyAt H1 q.2.2 q.1) ∧ t σ H1 fun vs H2 => r x vs H2 Q
theorem pe_bmN {X : Cx} (P : Program) (w : World) {o e : Expr} {es : List Expr} {to : TE} {t : TA} {name : Str} {apos cpos : Pos} {id : String} {r : V → List V → Hp → VK → Prop} (pa : PlainAttrs "dict") (slot : Slot "dict" name id) (hty : typeOf (.builtin id) = pure (.type "method_descriptor")) (hm : MtR X id r) (ho : PE X o to) (ha : PA X (e :: es) t)
    (h1 : X.prog = P := by rfl) (h2 : X.w = w := by rfl) (c : Written X o name apos cpos e es := by exact ⟨rfl, rfl, rfl, rfl, rfl⟩) : PE X (.Call (.Attribute o name apos) (e :: es) [] cpos) (tBMN P w r to t) := by
  subst h1 h2
  refine pe_bmG pa slot hty hm (fun pins s σ H x I ⟨a, en, ex, hd, hk⟩ => ?_) ho ha c
  obtain ⟨_, xs, _, ob, _, _, e1, ⟨cls, nd, _⟩, _⟩ := dtn I hd hk
  exact ⟨a, ob, ex, e1, cls, nd⟩
def KsN (en : List EnN) (ks : List (Addr × List V)) : Prop := ∀ q ∈ en, ∃ b1 b2, (q.2.2, [V.ref b1, V.ref b2]) ∈ ks ∧ (b1, q.1.1.map V.int) ∈ ks ∧ (b2, q.1.2.map V.int) ∈ ks
theorem KsN.keyAt {en : List EnN} {ks : List (Addr × List V)} {H : Hp} (h : KsN en ks) (s : ∀ e ∈ ks, SqF H e.1 e.2) : ∀ q ∈ en, KeyAt H q.2.2 q.1 := fun q m => by
  obtain ⟨b1, b2, m1, m2, m3⟩ := h q m
  exact ⟨b1, b2, s _ m1, s _ m2, s _ m3⟩
theorem mem_putN {en : List EnN} {r : RR} {v : V} {b : Addr} {q : EnN} (h : q ∈ putN en r v b) : (∃ e ∈ en, q.1 = e.1 ∧ q.2.2 = e.2.2 ∧ (q.2.1 = e.2.1 ∨ q.2.1 = v)) ∨ q = (r, v, b) := by
  unfold putN at h
  split at h
  · obtain ⟨e, m, rfl⟩ := List.mem_map.mp h
    refine .inl ⟨e, m, ?_⟩
    split
    · exact ⟨rfl, rfl, .inr rfl⟩
    · exact ⟨rfl, rfl, .inl rfl⟩
  · rcases List.mem_append.mp h with h | h
    · exact .inl ⟨q, h, rfl, rfl, .inl rfl⟩
    · exact .inr (List.mem_singleton.mp h)
theorem KsN.put {en : List EnN} {ks : List (Addr × List V)} (h : KsN en ks) (r : RR) (v : V) (b b1 b2 : Addr) : KsN (putN en r v b) ((b, [.ref b1, .ref b2]) :: (b1, r.1.map V.int) :: (b2, r.2.map V.int) :: ks) := fun q m => by
  rcases mem_putN m with ⟨e, me, e1, e2, _⟩ | rfl
  · obtain ⟨c1, c2, m1, m2, m3⟩ := h e me
    rw [e1, e2]
    exact ⟨c1, c2, by simp [m1], by simp [m2], by simp [m3]⟩
  · exact ⟨b1, b2, by simp, by simp, by simp⟩
theorem KsN.nil : KsN [] [] := fun q m => nomatch m
theorem KeyAt.tx {H H' : Hp} {b : Addr} {k : RR} (t : Tx H H') (h : KeyAt H b k) : KeyAt H' b k := by
  obtain ⟨b1, b2, s, s1, s2⟩ := h
  exact ⟨b1, b2, t.sqF s, t.sqF s1, t.sqF s2⟩
abbrev keyD (k : RR) : PyData := .tuple [row k.1, row k.2]
section
variable {K : PySem.W.Frag} {C : Addr} {H H' H1 H2 : Hp} {v w x y : V} {vs : List V} {d e : PyData} {ds es : List PyData}
variable {S : List Addr} {G : List (V × PyData)} {H0 : Hp} {σ : L2.St} {Γ : List Ct} {i j k l m : Nat} {c : Ct} {te ta tb tc tl ty td tv : TE} {t u : TT}
variable {D : Ends} {tu tw tz : TS} {p q f : Addr} {P : Program} {W : World} {en : List EnN} {ks : List (Addr × List V)}
abbrev dcn (P : Program) (W : World) (f : Addr) (en : List EnN) (ks : List (Addr × List V)) : Ct := .o f (DTn P W f en) ks
abbrev dkn (P : Program) (W : World) (f : Addr) (en : List EnN) (ks : List (Addr × List V)) : Ct := .k f (DTn P W f en) ks
theorem s_putN {r : RR} {x : Int} (w : Wd K C S G H0 H σ Γ) (hi : Γ[i]? = some (dcn P W f en ks)) (hks : KsN en ks) (hy : EvC K C ty σ H (.d (keyD r))) (hv : EvC K C tv σ H (.d (.int x))) (hz : en.length < 10000000)
    (k : ∀ b ks' H1, KsN (putN en r (.int x) b) ks' → Wd K C S G H0 H1 σ (Γ.set i (dcn P W f (putN en r (.int x) b) ks')) → D.nx σ H1) : sPutN P W (tVar i) ty tv D σ H :=
  hv H (Same.refl H) _ fun v H1 e1 a1 => by
    obtain rfl := Td.int_of a1
    obtain ⟨vf, ef, af⟩ := (w.mono e1).get hi
    obtain ⟨rfl, _⟩ := id af
    refine ⟨.ref f, ef, hy H1 e1 _ fun y H2 e2 a2 => ?_⟩
    obtain ⟨b, rfl, b1, b2, sb, s1, s2⟩ := key_td a2
    obtain ⟨_, hf, wr, hk⟩ := CtAt.mono e2 af
    have tx : Tx H2 (L2.upd H2 f (DTn P W f (putN en r (.int x) b))) := .fr (LT.oneW hf True.intro) Fr.upd
    refine ⟨f, b, en, r, rfl, rfl, hf, hks.keyAt hk, ⟨b1, b2, sb, s1, s2⟩, Nat.lt_of_lt_of_le hz (by decide), k b _ _ (hks.put r (.int x) b b1 b2) ?_⟩
    refine ((w.mono e1).mono e2).chgG hi rfl rfl rfl rfl True.intro fun v' a => ?_
    obtain ⟨ev, hf, wr, hk⟩ := a
    refine ⟨ev, upd_same, True.intro, fun q mq => tx.sqF ?_⟩
    simp only [List.mem_cons] at mq
    rcases mq with rfl | rfl | rfl | mq
    · exact sb
    · exact s1
    · exact s2
    · exact hk q mq
theorem ev_getN {r : RR} {n x : Int} (hd : EvC K C td σ H (dcn P W f en ks)) (hks : KsN en ks) (hy : EvC K C ty σ H (.d (keyD r))) (hx : (lookN en r).getD (.int n) = .int x) : EvC K C (tBMN P W (rGetN P W) td (tCons ty (tCons (tC (.int n)) tNil))) σ H (.d (.int x)) := fun H1 e1 Q q =>
  hd H1 e1 _ fun v H2 e2 a => by
    obtain ⟨rfl, hf, wr, hk⟩ := id a
    refine ⟨⟨f, en, rfl, hf, hks.keyAt hk⟩, hy H2 (e1.trans e2) _ fun y H3 e3 b => ?_⟩
    obtain ⟨bb, rfl, kb⟩ := key_td b
    obtain ⟨_, hf3, _, hk3⟩ := CtAt.mono e3 a
    exact ⟨f, bb, en, r, .int n, rfl, rfl, hf3, hks.keyAt hk3, kb, by rw [hx]; exact q _ H3 (e2.trans e3) (.int _)⟩
theorem ev_getE {r : RR} {x : Int} (hd : EvC K C td σ H (dkn P W f en ks)) (hks : KsN en ks) (hy : EvC K C ty σ H (.d (keyD r))) (hx : lookN en r = some (.int x)) : EvC K C (tGetE P W td ty) σ H (.d (.int x)) := fun H1 e1 Q q =>
  hd H1 e1 _ fun v H2 e2 a => hy H2 (e1.trans e2) _ fun y H3 e3 b => by
    obtain ⟨rfl, ⟨o, hf⟩, hk⟩ := CtAt.mono e3 a
    obtain ⟨bb, rfl, kb⟩ := key_td b
    exact ⟨f, bb, en, r, .int x, rfl, rfl, .inr ⟨o, hf⟩, hks.keyAt hk, kb, hx, q _ H3 (e2.trans e3) (.int _)⟩
theorem q_asgDN (w : Wd K C S G H0 H σ Γ) (k : ∀ f σ1 H1, Wd K C S G H0 H1 σ1 (Γ.set i (dcn P W f [] [])) → tz D σ1 H1) : tSeq (tAsg (tDNewN P W) (gName i)) tz D σ H := fun f hf =>
  k f _ _ (w.setO i (same_new hf) hf ⟨rfl, upd_same, True.intro, fun q m => nomatch m⟩)
theorem s_moveO {uu : HO} (w : Wd K C S G H0 H σ Γ) (hi : Γ[i]? = some (.o f uu ks)) (k : ∀ σ1, Wd K C S G H0 H σ1 ((Γ.set i .u).set j (.o f uu ks)) → D.nx σ1 H) : tAsg (tVar i) (gName j) D σ H := by
  obtain ⟨v, e, a⟩ := w.get hi
  obtain ⟨rfl, _⟩ := id a
  refine ⟨.ref f, e, k _ ((w.drop i).setC j a (fun _ => w.wr i _ hi rfl) fun j' c' x hj h m m' => ?_)⟩
  rcases set_cases h with ⟨_, rfl, _⟩ | ⟨ne, h⟩
  · simp [Ct.adr] at m'
  · rcases w.dj i j' _ c' x hi h m m' with z | z
    · exact ne z.symm
    · cases z.1
theorem Wd.lockN {o : Obj} (w : Wd K C S G H0 H σ Γ) (hi : Γ[i]? = some (dcn P W f en ks)) (hS : f ∉ S) : Wd K C S G H0 (L2.upd H f (.frz o (DTn P W f en))) σ (Γ.set i (dkn P W f en ks)) := by
  obtain ⟨v, ev, rfl, hf, wr, hk⟩ := w.get hi
  have l := LT.oneW hf wr
  have fr : Fr [f] H (L2.upd H f (.frz o (DTn P W f en))) := Fr.upd
  have h0 : H0 f = none := (w.wr i _ hi rfl f (by simp [Ct.adr])).resolve_left hS
  have w1 := w.drop i
  have w2 : Wd K C S G H0 (L2.upd H f (.frz o (DTn P W f en))) σ (Γ.set i .u) := by
    refine ⟨fun a ob h n => ?_, fun a m => ?_, w1.len, fun j c' hj => ?_, w1.wr, w1.dj, fun q m => Td.mono (.fr l fr) _ _ (w.gh q m)⟩
    · rw [upd_ne (fun z => by rw [z, h0] at h; cases h)]
      exact w.fr a ob h n
    · obtain ⟨u, h, z⟩ := w.sl a m
      exact ⟨u, by rw [upd_ne (fun e => hS (by rw [← e]; exact m))]; exact h, z⟩
    · refine (w1.at_ j c' hj).map fun u => CtAt.fr l fr fun a m z => ?_
      have ea : a = f := by simpa using z
      subst ea
      rcases set_cases hj with ⟨_, rfl, _⟩ | ⟨ne, hj'⟩
      · simp [Ct.adr] at m
      · rcases w.dj j i c' _ a hj' hi m (by simp [Ct.adr]) with z | ⟨_, z⟩
        · exact ne z
        · cases z
  have w3 := w2.set i (v := .ref f) (c := dkn P W f en ks) ⟨rfl, ⟨o, upd_same⟩, fun q m => (Tx.fr l fr).sqF (hk q m)⟩
  rw [List.set_set] at w3
  have es : σ.set i (some (.ref f)) = σ := by
    refine List.ext_getElem? fun n => ?_
    rw [List.getElem?_set]
    split
    · rename_i e
      subst e
      rw [ev]
      rw [if_pos (List.getElem?_eq_some_iff.mp ev).1]
    · rfl
  rw [es] at w3
  exact w3
theorem walkN {g : TG} {o : Obj} (Pv : Nat → L2.St → Hp → Prop) (h0 : Pv 0 σ H) (hw : ∀ k σ' H', Pv k σ' H' → H' f = some (.frz o (DTn P W f en)) ∧ ∀ q ∈ en, KeyAt H' q.2.2 q.1)
    (hs : ∀ (k : Nat) (hk : k < en.length) v σ' H', Td K H' v (keyD en[k].1) → Pv k σ' H' → g v σ' H' fun σ2 H2 => tu { D with nx := Pv (k + 1), ct := Pv (k + 1), bk := D.nx } σ2 H2) (hd : ∀ σ' H', Pv en.length σ' H' → D.nx σ' H') : Turns (Itn P W f o en) g tu D σ H :=
  for_it walk_L Pv h0 (fun k σ' H' _ p => (hw k σ' H' p).1) (fun k v σ' H1 H' lt p ⟨eH, e, at_, ev⟩ => by
    subst eH ev
    obtain ⟨_, rfl⟩ := List.getElem?_eq_some_iff.mp at_
    exact hs k lt _ σ' _ (key_td2 ((hw k σ' _ p).2 _ (List.getElem_mem lt))) p) hd
theorem q_forKN {a b : Nat} (w : Wd K C S G H0 H σ Γ) (hi : Γ[i]? = some (dcn P W f en ks)) (hks : KsN en ks) (hS : f ∉ S) (I : Nat → List Ct → Prop) (h0 : I 0 (Γ.set i (dkn P W f en ks)))
    (hs : ∀ (S1 : List Addr) (H1 : Hp), (∀ σ2 H2 Γ2, Wd K C S1 G H1 H2 σ2 Γ2 → Wd K C S G H0 H2 σ2 Γ2) → ∀ (k : Nat) (hk : k < en.length) σ' H' Γ', I k Γ' → Wd K C S1 G H1 H' σ' ((Γ'.set a (.d (row en[k].1.1))).set b (.d (row en[k].1.2))) →
      tu { D with nx := fun σ H => ∃ Γ2, I (k + 1) Γ2 ∧ Wd K C S1 G H1 H σ Γ2, ct := fun σ H => ∃ Γ2, I (k + 1) Γ2 ∧ Wd K C S1 G H1 H σ Γ2, bk := tz D } σ' H')
    (hd : ∀ σ' H' Γ', I en.length Γ' → Wd K C S G H0 H' σ' Γ' → tz D σ' H') : tSeq (tFor (iKeysN P W (tVar i)) (gTup K 2 (gCons (gName a) (gCons (gName b) gNil))) tu) tz D σ H := by
  obtain ⟨v, ev, rfl, hf, wr, hk⟩ := id (w.get hi)
  refine ⟨.ref f, ev, f, en, rfl, hf, fun o => ?_⟩
  have tx : Tx H (L2.upd H f (.frz o (DTn P W f en))) := .fr (LT.oneW hf wr) Fr.upd
  have w1 : Wd K C S G H0 _ σ (Γ.set i (dkn P W f en ks)) := w.lockN (o := o) hi hS
  have hf1 : (L2.upd H f (.frz o (DTn P W f en))) f = some (.frz o (DTn P W f en)) := upd_same
  have hk1 : ∀ q ∈ en, KeyAt (L2.upd H f (.frz o (DTn P W f en))) q.2.2 q.1 := fun q m => (hks.keyAt hk q m).tx tx
  generalize L2.upd H f (.frz o (DTn P W f en)) = H1 at w1 hf1 hk1
  have w2 : Wd K C (S ++ owns (Γ.set i (dkn P W f en ks))) G H1 H1 σ (Γ.set i (dkn P W f en ks)) := w1.re
  have un : ∀ σ2 H2 Γ2, Wd K C (S ++ owns (Γ.set i (dkn P W f en ks))) G H1 H2 σ2 Γ2 → Wd K C S G H0 H2 σ2 Γ2 := fun σ2 H2 Γ2 w' => w1.un w'
  refine walkN (K := K) (D := { D with nx := tz D }) (fun k σ' H' => ∃ Γ', I k Γ' ∧ Wd K C (S ++ owns (Γ.set i (dkn P W f en ks))) G H1 H' σ' Γ') ⟨_, h0, w2⟩ (fun k σ' H' ⟨Γ', _, w'⟩ => ⟨(Tx.fr w2.sl w'.fr) _ _ _ hf1, fun q m => (hk1 q m).tx (Tx.fr w2.sl w'.fr)⟩) (fun k hk v σ' H' t ⟨Γ', hI, w'⟩ => ?_) (fun σ' H' ⟨Γ', hI, w'⟩ => hd σ' H' Γ' hI (un _ _ _ w'))
  obtain ⟨T, xs, rfl, s, td⟩ := Td.tup_of t
  cases td with
  | cons t1 td =>
    cases td with
    | cons t2 td =>
      cases td
      exact ⟨T, _, rfl, s.sq, rfl, _, _, rfl, _, _, rfl, rfl, hs _ _ un k hk _ _ Γ' hI ((w'.set a (c := .d (row en[k].1.1)) t1).set b (c := .d (row en[k].1.2)) t2)⟩
theorem q_tupDN {r : RR} {x n : Int} (w : Wd K C S G H0 H σ Γ) (hy : EvC K C ty σ H (.d (keyD r))) (hl : ∀ H1, Wd K C S G H0 H1 σ Γ → EvC K C tl σ H1 (.d (.int n))) (hn : 0 ≤ n ∧ n ≤ 10000) (hij : i ≠ j)
    (k : ∀ f b ks p σ1 H1, KsN [(r, .int x, b)] ks → Wd K C S G H0 H1 σ1 ((Γ.set i (dcn P W f [(r, .int x, b)] ks)).set j (.l p ((List.range n.toNat).map fun a => .int ((a : Nat) : Int)))) → tz D σ1 H1) :
    tSeq (tAsg (tTupF (tCons (tDispN P W ty (tC (.int x))) (tCons (tLstRg (tRg1 tl)) tNil))) (gTup K 2 (gCons (gName i) (gCons (gName j) gNil)))) tz D σ H := fun f hf =>
  hy _ (same_new hf) _ fun y H1 e1 a1 => by
    obtain ⟨b, rfl, b1, b2, sb, s1, s2⟩ := key_td a1
    have h1 : H1 f = some (DTn P W f []) := e1 _ _ upd_same
    have tx : Tx H1 (L2.upd H1 f (DTn P W f [(r, .int x, b)])) := .fr (LT.oneW h1 True.intro) Fr.upd
    refine ⟨b, r, rfl, h1, ⟨b1, b2, sb, s1, s2⟩, ?_⟩
    have same : Same H (L2.upd H1 f (DTn P W f [(r, .int x, b)])) := fun a o h => by
      have ne : a ≠ f := fun z => by rw [z, hf] at h; cases h
      rw [upd_ne ne]
      exact e1 _ _ (by rw [upd_ne ne]; exact h)
    have ct : CtAt K C (L2.upd H1 f (DTn P W f [(r, .int x, b)])) (.ref f) (dcn P W f [(r, .int x, b)] ((b, [.ref b1, .ref b2]) :: (b1, r.1.map V.int) :: (b2, r.2.map V.int) :: [])) := by
      refine ⟨rfl, upd_same, True.intro, fun q mq => tx.sqF ?_⟩
      simp only [List.mem_cons, List.not_mem_nil, or_false] at mq
      rcases mq with rfl | rfl | rfl
      · exact sb
      · exact s1
      · exact s2
    have kn : KsN [(r, V.int x, b)] ((b, [.ref b1, .ref b2]) :: (b1, r.1.map V.int) :: (b2, r.2.map V.int) :: []) := KsN.nil.put r (.int x) b b1 b2
    generalize hH : L2.upd H1 f (DTn P W f [(r, .int x, b)]) = H2 at same ct
    refine hl H2 (w.mono same) H2 (Same.refl H2) _ fun v H3 e3 a3 => ?_
    obtain rfl := Td.int_of a3
    refine ⟨n, rfl, ⟨by omega, by omega, by omega, by omega, by omega⟩, fun p hp => ⟨by show 2 ≤ sizeLine; decide, fun pt o hpt ho => ?_⟩⟩
    have e4 : Same H3 (L2.upd H3 p (.lst (rgV 0 n))) := same_new hp
    have e5 : Same (L2.upd H3 p (.lst (rgV 0 n))) (L2.upd (L2.upd H3 p (.lst (rgV 0 n))) pt (.frz o (.tup [.ref f, .ref p]))) := same_new hpt
    have rg : CtAt K C (L2.upd H3 p (.lst (rgV 0 n))) (.ref p) (.l p ((List.range n.toNat).map fun a => .int ((a : Nat) : Int))) := by
      refine new_l hp ?_
      unfold rgV
      rw [Int.sub_zero]
      have e : (List.range n.toNat).map (fun i : Nat => V.int (0 + (i : Int))) = ((List.range n.toNat).map fun a => ((a : Nat) : Int)).map V.int := by
        rw [List.map_map]
        refine List.map_congr_left fun i _ => ?_
        show V.int (0 + (i : Int)) = V.int (i : Int)
        rw [Int.zero_add]
      have e' : ((List.range n.toNat).map fun a => PyData.int ((a : Nat) : Int)) = iL ((List.range n.toNat).map fun a => ((a : Nat) : Int)) := by
        unfold iL
        rw [List.map_map]
        rfl
      rw [e, e']
      exact TdAll.of_iL _
    exact ⟨pt, _, rfl, SqF.sq ⟨o, upd_same, ho⟩, rfl, _, _, rfl, _, _, rfl, rfl, k f b _ p _ _ kn (((w.setO i same hf ct).setN j (e3.trans e4) (e3.free hp) rg).mono e5)⟩
def vi : V → Int
  | .int i => i
  | _ => 0
theorem s_retSumN (w : Wd K C [] G H0 H σ Γ) (hi : Γ[i]? = some (dcn P W f en ks)) (hij : i ≠ j) (hj : j < Γ.length) (hks : KsN en ks) (hv : ∀ e ∈ en, lookN en e.1 = some (.int (vi e.2.1))) (hz : en.length < 10000000)
    (k : ∀ H1, Same H0 H1 → D.rt (.int (en.map fun e => vi e.2.1).sum) H1) : tRet (tCB (rSum K) (tCons (tLc (iKeysN P W (tVar i)) (gName j) tYes (tGetE P W (tVar i) (tVar j)) [j]) tNil)) D σ H := by
  obtain ⟨v, ev, rfl, hf, wr, hk⟩ := id (w.get hi)
  refine ⟨.ref f, ev, f, en, rfl, hf, fun o => fun Dl hD => ?_⟩
  have tx : Tx H (L2.upd H f (.frz o (DTn P W f en))) := .fr (LT.oneW hf wr) Fr.upd
  have w1 : Wd K C [] G H0 _ σ (Γ.set i (dkn P W f en ks)) := w.lockN (o := o) hi (by simp)
  have hf1 : (L2.upd H f (.frz o (DTn P W f en))) f = some (.frz o (DTn P W f en)) := upd_same
  have hk1 : ∀ q ∈ en, KeyAt (L2.upd H f (.frz o (DTn P W f en))) q.2.2 q.1 := fun q m => (hks.keyAt hk q m).tx tx
  generalize L2.upd H f (.frz o (DTn P W f en)) = H1 at w1 hf1 hk1 hD
  refine lc_it walk_L (fun k H' => Cw K H1 Dl (kept (fun _ => true) (fun e : EnN => .int (vi e.2.1)) (en.take k)) H') (by rw [List.take_zero]; exact Cw.start hD) (fun k H' _ c => c.2.1 _ _ hf1) (fun k v H0' H' _ c y => ?_) (fun H' c => ?_)
  · obtain ⟨rfl, x, hx, rfl⟩ := y
    have m : x ∈ en := List.mem_of_getElem? hx
    have w2 : Wd K C [] G H0 H1 ((wipe σ [j]).set j (some (.ref x.2.2))) (((Γ.set i (dkn P W f en ks)).set j .u).set j (.d (keyD x.1))) := (w1.wiped j).set j (key_td2 (hk1 x m))
    show wipe ((wipe σ [j]).set j (some (.ref x.2.2))) [j] = wipe σ [j] ∧ _
    refine ⟨wipe1 σ j _, ?_⟩
    have hil : i < Γ.length := (List.getElem?_eq_some_iff.mp hi).1
    have gi : (((Γ.set i (dkn P W f en ks)).set j Ct.u).set j (.d (keyD x.1)))[i]? = some (dkn P W f en ks) := by
      rw [List.getElem?_set_ne (Ne.symm hij), List.getElem?_set_ne (Ne.symm hij), List.getElem?_set_self hil]
    have z := cw_turn (C := C) (t := tYes) (b := true) (te := tGetE P W (tVar i) (tVar j)) (σ2 := (wipe σ [j]).set j (some (.ref x.2.2))) (d := .int (vi x.2.1)) c (Nat.lt_of_le_of_lt kept_len hz) et_yes fun _ => by
      have gj : (((Γ.set i (dkn P W f en ks)).set j Ct.u).set j (.d (keyD x.1)))[j]? = some (.d (keyD x.1)) := by
        rw [List.getElem?_set_self (by simpa using hj)]
      exact ev_getE (ev_var w2 gi) hks (ev_var w2 gj) (hv x m)
    rw [← kept_step (f := fun _ => true) (g := fun e : EnN => PyData.int (vi e.2.1)) hx] at z
    exact z
  · rw [List.take_of_length_le (Nat.le_refl _)] at c
    obtain ⟨c1, c2, acc, c3, c4⟩ := c
    have ek : kept (fun _ => true) (fun e : EnN => PyData.int (vi e.2.1)) en = iL (en.map fun e => vi e.2.1) := by
      unfold kept iL
      rw [List.filter_eq_self.mpr fun _ _ => rfl, List.map_map]
      rfl
    rw [ek] at c4
    rw [c4.iL_of] at c3
    exact ⟨Dl, _, rfl, SqL.of c3, k H' (w1.fr0.trans c2)⟩
end
end Pt
namespace Pt
open PySem PySem.Spec PyProof.Rows L2
def met (m : Nat) : Nat → Nat
  | 0 => 1
  | n + 1 => met m n ||| 2 ^ lcgN m (n + 1)
theorem met_bit (m j : Nat) : ∀ n, (met m n).testBit j = true → ∃ b, b ≤ n ∧ lcgN m b = j
  | 0, h => by
    have h' : (2 ^ 0 : Nat).testBit j = true := h
    rw [Nat.testBit_two_pow, decide_eq_true_eq] at h'
    exact ⟨0, Nat.le_refl _, h'⟩
  | n + 1, h => by
    have h' : (met m n ||| 2 ^ lcgN m (n + 1)).testBit j = true := h
    rw [Nat.testBit_or, Bool.or_eq_true, Nat.testBit_two_pow, decide_eq_true_eq] at h'
    rcases h' with z | z
    · obtain ⟨b, hb, e⟩ := met_bit m j n z
      exact ⟨b, by omega, e⟩
    · exact ⟨n + 1, Nat.le_refl _, z⟩
theorem met_511 : met 511 511 = 2 ^ 512 - 1 := by decide +kernel
theorem back_511 : lcgN 511 512 = 0 := by decide +kernel
theorem on_511 : ∀ c, lcgN 511 (512 + c) = lcgN 511 c
  | 0 => back_511
  | c + 1 => congrArg (fun z => (z * 5 + 1) % 512) (on_511 c)
def Msk (m : Nat) : Prop := m = 7 ∨ m = 31 ∨ m = 127 ∨ m = 511
theorem Msk.top {m : Nat} (h : Msk m) : m ≤ 511 := by rcases h with h | h | h | h <;> omega
theorem Msk.two {m : Nat} (h : Msk m) : m % 2 = 1 := by rcases h with h | h | h | h <;> omega
theorem Msk.round {m : Nat} (h : Msk m) {i j : Nat} (hi : i ≤ m) (hj : j ≤ m) : ∃ c, c ≤ m ∧ lcgI m i c = j := by
  have small : MaskOk m → ∃ c, c ≤ m ∧ lcgI m i c = j := fun z => lcgI_all z hi hj
  rcases h with h | h | h | h
  · exact small (.inl h)
  · exact small (.inr (.inl h))
  · exact small (.inr (.inr h))
  · subst h
    have at' : ∀ z, z ≤ 511 → ∃ b, b ≤ 511 ∧ lcgN 511 b = z := fun z hz => met_bit 511 z 511 (by
      rw [met_511, Nat.testBit_two_pow_sub_one, decide_eq_true_eq]
      omega)
    obtain ⟨x, hx, ex⟩ := at' i hi
    obtain ⟨y, hy, ey⟩ := at' j hj
    by_cases c : x ≤ y
    · refine ⟨y - x, by omega, ?_⟩
      rw [← ex, lcgN_add, Nat.add_sub_cancel' c, ey]
    · refine ⟨512 + y - x, by omega, ?_⟩
      rw [← ex, lcgN_add, Nat.add_sub_cancel' (by omega), on_511, ey]
theorem off_ten (m : Nat) : ∀ n i b, i ≤ m → off m i b n ≤ 10 * n
  | 0, _, _, _ => Nat.le_refl _
  | n + 1, i, b, hi => by
    have z := off_ten m n _ (SetTable.leap m i b).2 (leap_le m i b)
    have y := (runEnd_bd hi).2.2
    show SetTable.runEnd m i - i + 1 + off m (SetTable.leap m i b).1 (SetTable.leap m i b).2 n ≤ _
    omega
theorem hole {m : Nat} (M : Msk m) (h : Int) {occ : Nat → Prop} {j : Nat} (hj : j ≤ m) (free : ¬ occ j) :
    ∃ n K, n < SetTable.turns m ∧ K ≤ off m (SetTable.bits h % (m + 1)) (SetTable.bits h) n ∧ ¬ occ (way m h K) ∧ ∀ c, c < K → occ (way m h c) := by
  obtain ⟨c, hc, e⟩ := M.round (runI_le m (SetTable.bits h) 12) hj
  have e' : way m h (off m (SetTable.bits h % (m + 1)) (SetTable.bits h) (12 + c)) = j := by
    unfold way
    rw [nth_off, itL_run]
    exact (runI_tail (bits_lt h) c).trans e
  obtain ⟨K, h1, h2, h3⟩ := st_least (p := fun q => ¬ occ (way m h q)) _ (by rw [e']; exact free)
  exact ⟨12 + c, K, by unfold SetTable.turns; omega, h1, h2, fun q hq => Classical.byContradiction fun z => h3 q hq z⟩
theorem way_in {m : Nat} (M : Msk m) (h : Int) (c : Nat) : way m h c ≤ m := by
  have i0 : SetTable.bits h % (m + 1) ≤ m := Nat.le_of_lt_succ (Nat.mod_lt _ (Nat.succ_pos _))
  have r := runEnd_bd i0
  have z := nth_in (m := m) c (runAt m (SetTable.bits h % (m + 1)) (SetTable.bits h)) (by unfold runAt; dsimp only; omega)
  exact Nat.le_trans (Nat.le_add_right _ _) z
structure Tab (t : SetTable) (hs : List Int) : Prop where
  asc : Ris t.place.toList
  clean : t.dummies = #[]
  num : t.place.size = hs.length
  msk : Msk t.mask
  within : ∀ x ∈ t.place.toList, x ≤ t.mask
  found : ∀ (i : Nat) (h : Int) (j : Nat), hs[i]? = some h → t.place.toList[i]? = some j → ∃ c, way t.mask h c = j ∧ ∀ b, b < c → way t.mask h b ∈ t.place.toList
theorem Tab.first {t : SetTable} {hs : List Int} (T : Tab t hs) (few : hs.length ≤ t.mask) (h : Int) :
    ∃ K, K < 10 * SetTable.turns t.mask ∧ way t.mask h K ∉ t.place.toList ∧ ∀ c, c < K → way t.mask h c ∈ t.place.toList := by
  obtain ⟨j, j1, j2⟩ := st_missing t.place.toList (t.mask + 1) (by rw [Array.length_toList, T.num]; omega)
  obtain ⟨n, K, n1, k1, k2, k3⟩ := hole T.msk h (occ := fun x => x ∈ t.place.toList) (Nat.le_of_lt_succ j1) j2
  have z := Nat.le_trans k1 (off_ten t.mask n _ (SetTable.bits h) (Nat.le_of_lt_succ (Nat.mod_lt (SetTable.bits h) (Nat.succ_pos t.mask))))
  exact ⟨K, by omega, k2, k3⟩
theorem Tab.ahead {t : SetTable} {hs : List Int} (T : Tab t hs) {h : Int} {K i j : Nat} (free : way t.mask h K ∉ t.place.toList) (hi : hs[i]? = some h) (hj : t.place.toList[i]? = some j) :
    ∃ c, c < K ∧ way t.mask h c = j := by
  obtain ⟨c, e, z⟩ := T.found i h j hi hj
  refine ⟨c, Nat.lt_of_not_le fun y => ?_, e⟩
  rcases Nat.lt_or_eq_of_le y with y | y
  · exact free (z K y)
  · exact free (y ▸ e ▸ List.mem_of_getElem? hj)
theorem Tab.put {t : SetTable} {hs : List Int} (T : Tab t hs) {h : Int} {K p : Nat} (free : way t.mask h K ∉ t.place.toList) (occ : ∀ c, c < K → way t.mask h c ∈ t.place.toList)
    (hp : SetTable.below t.place (way t.mask h K) = p) :
    p ≤ hs.length ∧ Tab (t.put (way t.mask h K)).1 (hs.take p ++ h :: hs.drop p) := by
  subst hp
  have num : t.place.toList.length = hs.length := by rw [Array.length_toList]; exact T.num
  have lp : SetTable.below t.place (way t.mask h K) ≤ t.place.toList.length := by rw [Array.length_toList]; exact (below_cut T.asc _).1
  have lh : SetTable.below t.place (way t.mask h K) ≤ hs.length := num ▸ lp
  have pl := put_place t (way t.mask h K)
  have more : ∀ x, x ∈ t.place.toList → x ∈ (t.put (way t.mask h K)).1.place.toList := fun x hx => pl ▸ mem_ins.2 (.inr hx)
  have keep : ∀ {h' j'}, (∃ c, way t.mask h' c = j' ∧ ∀ b, b < c → way t.mask h' b ∈ t.place.toList) → ∃ c, way t.mask h' c = j' ∧ ∀ b, b < c → way t.mask h' b ∈ (t.put (way t.mask h K)).1.place.toList :=
    fun z => let ⟨c, e, y⟩ := z; ⟨c, e, fun b hb => more _ (y b hb)⟩
  refine ⟨lh, ris_insert T.asc fun e => free (List.mem_of_getElem? (by rw [Array.getElem?_toList]; exact e)), put_dm T.clean _, ?_, T.msk, ?_, ?_⟩
  · rw [← Array.length_toList, pl, len_ins _ lp, len_ins _ lh, num]
  · intro x hx
    rw [pl] at hx
    exact (mem_ins.1 hx).elim (fun e => e ▸ way_in T.msk h K) (T.within x)
  · intro i h' j' e1 e2
    rw [tins_get hs lh] at e1
    rw [pl, tins_get _ lp] at e2
    by_cases c : i < SetTable.below t.place (way t.mask h K)
    · rw [if_pos c] at e1 e2
      exact keep (T.found i h' j' e1 e2)
    · by_cases d : i = SetTable.below t.place (way t.mask h K)
      · rw [if_neg c, if_pos d] at e1 e2
        cases e1
        cases e2
        exact keep ⟨K, rfl, occ⟩
      · rw [if_neg c, if_neg d] at e1 e2
        exact keep (T.found (i - 1) h' j' e1 e2)
theorem own_next {m : Nat} (M : Msk m) {done : List Int} {ow : Array (Option Nat)} (W : Own m done ow) (few : done.length ≤ m) (h : Int) :
    ∃ j, SetTable.layClean.free m ow (SetTable.turns m) (SetTable.bits h % (m + 1)) (SetTable.bits h) = some j ∧ Own m (done ++ [h]) (ow.setIfInBounds j (some done.length)) := by
  obtain ⟨ps, l1, l2⟩ := W.ps
  obtain ⟨j, j1, j2⟩ := st_missing ps (m + 1) (by omega)
  obtain ⟨n, K, n1, k1, k2, k3⟩ := hole M h (occ := fun x => oAt ow x ≠ none) (Nat.le_of_lt_succ j1) fun z => j2 (l2 j (Nat.le_of_lt_succ j1) z)
  have k2' : oAt ow (way m h K) = none := Classical.byContradiction k2
  have hin := way_in M h K
  have here : oAt (ow.setIfInBounds (way m h K) (some done.length)) (way m h K) = some done.length := oAt_set_self _ (by rw [W.sz]; omega)
  have there : ∀ {i}, i ≠ way m h K → oAt (ow.setIfInBounds (way m h K) (some done.length)) i = oAt ow i := fun z => oAt_set_ne _ z
  have still : ∀ {i}, oAt ow i ≠ none → oAt (ow.setIfInBounds (way m h K) (some done.length)) i ≠ none := fun {i} z => by
    rw [there fun e => z (by rw [e]; exact k2')]
    exact z
  refine ⟨way m h K, free_spec m ow _ n _ _ K n1 k1 (fun c hc => ?_) ?_, ?_, ?_, ?_, way m h K :: ps, ?_, ?_⟩
  · exact Bool.eq_false_iff.mpr fun z => k3 c hc (Option.isNone_iff_eq_none.mp z)
  · exact Option.isNone_iff_eq_none.mpr k2'
  · rw [Array.size_setIfInBounds, W.sz]
  · intro i q hi e
    by_cases c : i = way m h K
    · subst c
      rw [here] at e
      cases e
      exact ⟨h, K, by simp, rfl, fun b hb => still (k3 b hb)⟩
    · rw [there c] at e
      obtain ⟨h', K', a1, a2, a3⟩ := W.at_ i q hi e
      have lt : q < done.length := (List.getElem?_eq_some_iff.mp a1).1
      exact ⟨h', K', by rw [List.getElem?_append_left lt]; exact a1, a2, fun b hb => still (a3 b hb)⟩
  · intro q hq
    by_cases c : q < done.length
    · obtain ⟨i, hi, e⟩ := W.all q c
      exact ⟨i, hi, by rw [there fun z => by rw [z, k2'] at e; cases e]; exact e⟩
    · have z : q = done.length := by simp at hq; omega
      exact ⟨way m h K, hin, z ▸ here⟩
  · simp [l1]
  · intro i hi e
    by_cases c : i = way m h K
    · exact c ▸ List.mem_cons_self
    · rw [there c] at e
      exact List.mem_cons_of_mem _ (l2 i hi e)
theorem own_all {m : Nat} (M : Msk m) : ∀ (rest done : List Int) (ow : Array (Option Nat)), Own m done ow → (done ++ rest).length ≤ m →
    ∃ ow', rest.foldl (stepF m) (some (ow, done.length)) = some (ow', (done ++ rest).length) ∧ Own m (done ++ rest) ow'
  | [], done, ow, W, _ => ⟨ow, by simp, by simpa using W⟩
  | h :: rest, done, ow, W, few => by
    have few' : done.length + (rest.length + 1) ≤ m := by simpa using few
    obtain ⟨j, e, W'⟩ := own_next M W (by omega) h
    obtain ⟨ow', e', W2⟩ := own_all M rest (done ++ [h]) _ W' (by simp; omega)
    refine ⟨ow', ?_, by simpa using W2⟩
    rw [List.foldl_cons]; rw [stepF_some e]; simpa using e'
theorem relaid_tab (t : SetTable) {hs : Array Int} {wanted m : Nat} (e : SetTable.sizeAbove wanted - 1 = m) (M : Msk m) (few : hs.size ≤ m) :
    ∃ t' ord, t.relaid hs wanted = some (t', ord) ∧ ord.toList.Perm (List.range hs.size) ∧ Tab t' (ord.toList.map fun i => hs.getD i 0) ∧ t'.mask = m ∧ t'.led = t.led ∧ t'.plain = t.plain := by
  obtain ⟨ow, f, W⟩ := own_all M hs.toList [] _ (Own.init m) (by simpa using few)
  have f' : SetTable.layClean m hs = some ow := by
    rw [layClean_eq]
    exact congrArg (Option.map (·.1)) f
  have W' : Own m hs.toList ow := W
  have lv : ∀ {j q}, (j, q) ∈ liveOf m ow ↔ j ≤ m ∧ oAt ow j = some q := mem_live W'.sz
  have asc : Ris ((liveOf m ow).map (·.1)) ∧ ∀ x ∈ (liveOf m ow).map (·.1), x ∈ List.range (m + 1) := ris_live (fun j => ow.getD j none) (List.range (m + 1)) List.pairwise_lt_range
  have len : (liveOf m ow).length = hs.size := by
    obtain ⟨ps, p1, p2⟩ := W'.ps
    have nd : ((liveOf m ow).map (·.1)).Nodup := by
      have z := asc.1
      unfold Ris at z
      exact z.imp fun y => Nat.ne_of_lt y
    have le1 := nat_nodup_len ((liveOf m ow).map (·.1)) ps nd fun x hx => by
      obtain ⟨⟨y, q⟩, hy, rfl⟩ := List.mem_map.mp hx
      exact p2 y (lv.1 hy).1 (by rw [(lv.1 hy).2]; simp)
    have le2 := nat_nodup_len (List.range hs.size) ((liveOf m ow).map (·.2)) List.nodup_range fun q hq => by
      obtain ⟨j, b1, b2⟩ := W'.all q (by simpa using hq)
      exact List.mem_map.mpr ⟨(j, q), lv.2 ⟨b1, b2⟩, rfl⟩
    rw [List.length_map] at le1 le2
    have sz : hs.toList.length = hs.size := rfl
    rw [p1, sz] at le1
    rw [List.length_range] at le2
    omega
  refine ⟨tabOf t m ow, ((liveOf m ow).map (·.2)).toArray, ?_, ?_, ⟨asc.1, rfl, ?_, M, ?_, ?_⟩, rfl, rfl, rfl⟩
  · rw [relaid_eq, e, f']
    rfl
  · refine perm_range _ _ (by simpa using len) fun q hq => ?_
    obtain ⟨j, b1, b2⟩ := W'.all q (by simpa using hq)
    exact List.mem_map.mpr ⟨(j, q), lv.2 ⟨b1, b2⟩, rfl⟩
  · simp [tabOf]
  · intro x hx
    exact Nat.le_of_lt_succ (List.mem_range.mp (asc.2 x hx))
  · intro i h j e1 e2
    have e1' : ((liveOf m ow)[i]?.map (·.2)).map (fun i => hs.getD i 0) = some h := by simpa using e1
    have e2' : (liveOf m ow)[i]?.map (·.1) = some j := by simpa [tabOf] using e2
    cases z : (liveOf m ow)[i]? with
    | none => rw [z] at e2'; cases e2'
    | some y =>
      obtain ⟨y, q⟩ := y
      rw [z] at e1' e2'
      cases e2'
      cases e1'
      have me := lv.1 (List.mem_of_getElem? z)
      obtain ⟨h0, K, a1, a2, a3⟩ := W'.at_ y q me.1 me.2
      have eh : hs.getD q 0 = h0 := by
        rw [Array.getElem?_toList] at a1
        simp [Array.getD_eq_getD_getElem?, a1]
      refine ⟨K, by show way m (hs.getD q 0) K = y; rw [eh]; exact a2, fun b hb => ?_⟩
      show way m (hs.getD q 0) b ∈ (liveOf m ow).map (·.1)
      rw [eh]
      cases u : oAt ow (way m h0 b) with
      | none => exact absurd u (a3 b hb)
      | some v => exact List.mem_map.mpr ⟨(way m h0 b, v), lv.2 ⟨way_in M h0 b, u⟩, rfl⟩
theorem above_5 : SetTable.sizeAbove (SetTable.grown 5) = 32 := by decide +kernel
theorem above_19 : SetTable.sizeAbove (SetTable.grown 19) = 128 := by decide +kernel
theorem above_77 : SetTable.sizeAbove (SetTable.grown 77) = 512 := by decide +kernel
end Pt
namespace Pt
open PySem PySem.Spec PyProof.Rows L2
def pb (m : Nat) (H : Int) (c : Nat) : SetTable.Probe := nth m (runAt m (SetTable.bits H % (m + 1)) (SetTable.bits H)) c
theorem pb_add (m : Nat) (H : Int) (c d : Nat) : nth m (pb m H c) d = pb m H (c + d) := (nth_add m c _ d).symm
theorem pb_clean (m : Nat) (H : Int) : ∀ c, (pb m H c).dummy = none
  | 0 => rfl
  | c + 1 => by
    have z := pb_clean m H c
    rw [show pb m H (c + 1) = adv m (pb m H c) from nth_succ m _ c]
    unfold adv
    split
    · exact z
    · exact z
section
variable {P : Program} {w : World} {A : Around} {E : Value → Shared → Prop} {s : Shared} {a : Addr} {L : List (Addr × List Int)} {es : Array (Int × Value)} {ep : Nat} {t : SetTable}
structure SX (P : Program) (w : World) (h : Heap) (a : Addr) (L : List (Addr × List Int)) (es : Array (Int × Value)) (ep : Nat) (t : SetTable) : Prop where
  at_ : ∃ o, h.get? a = some o ∧ o.ExactSet ∧ o.data = .set es ep t
  all : es.toList = rowsOf P w L
  tab : Tab t (L.map fun y => thash P w y.2)
  one : (L.map (·.2)).Nodup
  rows : ∀ y ∈ L, IsT P w h y.2 y.1
  pln : t.plain = true
  seen : w.params.followText "set-order" = true ∨ t.led = true
  free : L.length * 5 < t.mask * 3
theorem rowsOf_len : (rowsOf P w L).length = L.length := List.length_map _
theorem SX.num {h : Heap} (R : SX P w h a L es ep t) : es.size = L.length := by
  rw [← Array.length_toList, R.all, rowsOf_len]
theorem fits_of {n : Nat} (h1 : t.place.size = n) (h2 : t.dummies = #[]) (h3 : n ≤ t.mask) : t.fits n = true := by
  simp [SetTable.fits, SetTable.fill, h1, h2, h3]
theorem SX.fit {h : Heap} (R : SX P w h a L es ep t) : t.fits es.size = true := by
  have f := R.free
  refine fits_of ?_ R.tab.clean (by rw [R.num]; omega)
  rw [R.tab.num, R.num, List.length_map]
theorem row_at {es : Array (Int × Value)} {L : List (Addr × List Int)} (h : es.toList = rowsOf P w L) {i : Nat} {y : Addr × List Int} (hy : L[i]? = some y) : es[i]? = some (thash P w y.2, Value.ref y.1) := by
  have z : es.toList[i]? = some (thash P w y.2, Value.ref y.1) := by
    rw [h]
    simp [rowsOf, hy]
  rwa [Array.getElem?_toList] at z
theorem SX.stay (R : SX P w s.heap a L es ep t) : ¬ t.gaveWay = true := by
  simp [SetTable.gaveWay, R.tab.msk.two]
theorem seek (R : SX P w s.heap a L es ep t) {x : Addr} {k : List Int} {H : Int} (hx : IsT P w s.heap k x) (eH : thash P w k = H) (hu : A.units < cLine) {K : Nat}
    (b1 : K < 10 * SetTable.turns t.mask) (b2 : way t.mask H K ∉ t.place.toList) (b3 : ∀ c, c < K → way t.mask H c ∈ t.place.toList) {Q : SetFound → Shared → Prop}
    (yes : k ∈ L.map (·.2) → Q (.there none) s) (no : k ∉ L.map (·.2) → Q (.free (way t.mask H K) false) s) :
    ∀ (f c : Nat) (stand : Option SetTable.Probe), stand.getD (t.probeStart H) = pb t.mask H c → c ≤ K → K - c < f →
      (∀ (i : Nat) y, L[i]? = some y → y.2 = k → ∃ d, c ≤ d ∧ d < K ∧ t.place.toList[i]? = some (way t.mask H d)) → wpAny (model P w) A (setSearchFrom a (.ref x) H true f stand) Q E s := by
  intro f
  induction f with
  | zero => exact fun c _ _ _ z => absurd z (Nat.not_lt_zero _)
  | succ f ih =>
    intro c stand e le lt ahead
    obtain ⟨o, ho, -, hd⟩ := R.at_
    have hash : ∀ (i : Nat) y, L[i]? = some y → y.2 = k → (es[i]?.map (·.1)).getD 0 = H := fun i y hy z => by
      rw [row_at R.all hy, ← eH, ← z]
      rfl
    have sp := go_spec t R.tab.asc R.tab.clean (fun i => (es[i]?.map (·.1)).getD 0) H (10 * SetTable.turns t.mask) (K - c) (pb t.mask H c) (pb_clean _ _ _) (by omega)
      (fun d hd => by rw [pb_add]; exact b3 _ (by omega)) (by rw [pb_add, Nat.add_sub_cancel' le]; exact b2)
    simp only [pb_add] at sp
    rw [setSearchFrom_succ]
    refine wpAny_bind (wpAny_setState_of ho hd R.fit (wp_if_neg R.stay ?_))
    (try refine wpAny_bind (wpAny_pure ?_))
    rcases sp with ⟨d, i, d1, d2, d3, d4, d5⟩ | ⟨d1, d2⟩
    · rw [show t.probe (fun i => (es[i]?.map (·.1)).getD 0) H (stand.getD (t.probeStart H)) = some (.candidate (pb t.mask H (c + d)).j i (pb t.mask H (c + (d + 1)))) by rw [e]; exact d5]
      obtain ⟨y, hy⟩ : ∃ y, L[i]? = some y := by
        have z := (List.getElem?_eq_some_iff.mp d2).1
        rw [Array.length_toList, R.tab.num, List.length_map] at z
        exact ⟨_, List.getElem?_eq_getElem z⟩
      have hyL := List.mem_of_getElem? hy
      have rest : wpAny (model P w) A (searchRest a (.ref x) H true f es t (pb t.mask H (c + d)).j i (pb t.mask H (c + (d + 1)))) Q E s := by
        unfold searchRest
        rw [row_at R.all hy]
        refine wpAny_bind (wpAny_holding (wpAny_eqBool_tuple hu (R.rows y hyL) hx ?_))
        refine wpAny_bind (wpAny_setState_of ho hd R.fit ?_)
        by_cases c1 : y.2 = k
        · exact wp_if_pos (by simp [c1]) (wpAny_pure (yes (List.mem_map.mpr ⟨y, hyL, c1⟩)))
        · refine wp_if_neg (by simp [c1]) ?_
          (try refine wpAny_bind (wpAny_pure ?_))
          have sl : t.slot (pb t.mask H (c + d)).j = .live i := slot_live R.tab.asc d2
          rw [sameMem]
          dsimp only
          simp only [if_true, sl, row_at R.all hy]
          refine wpAny_bind (wpAny_isSame_ref_self (wpAny_bind (wpAny_pure ?_))); simp only [if_true]
          refine wp_if_neg (by simp [c1]) (ih (c + (d + 1)) _ rfl (by omega) (by omega) fun i' y' hy' ey' => ?_)
          obtain ⟨u, u1, u2, u3⟩ := ahead i' y' hy' ey'
          refine ⟨u, (show c + d < u from Nat.lt_of_not_le fun z => ?_), u2, u3⟩
          rcases Nat.lt_or_eq_of_le z with z | z
          · exact d4 (u - c) i' (by omega) (by rw [Nat.add_sub_cancel' u1]; exact u3) (hash i' y' hy' ey')
          · subst z
            have s2 := slot_live R.tab.asc u3
            rw [show way t.mask H (c + d) = (pb t.mask H (c + d)).j from rfl, sl] at s2
            cases s2
            rw [hy] at hy'
            cases hy'
            exact c1 ey'
      by_cases hl : t.led = true
      · refine wp_if_neg (by simp [hl]) ?_; (try refine wpAny_bind (wpAny_pure ?_))
        exact rest
      · refine wp_if_pos (by simp [hl]) (wpAny_bind (seen_tup hx (fun v hv => ?_) (wp_if_neg (by decide) ?_)))
        · obtain ⟨q, hq, rfl⟩ := List.mem_map.mp hv
          have hq' : q ∈ es.toList := by
            have z : q ∈ es ∧ q.1 = H := by simpa using hq
            simpa using z.1
          rw [R.all] at hq'
          obtain ⟨y', hy', rfl⟩ := List.mem_map.mp hq'
          exact ⟨y'.2, y'.1, rfl, R.rows y' hy'⟩
        · (try refine wpAny_bind (wpAny_pure ?_))
          exact rest
    · rw [show t.probe (fun i => (es[i]?.map (·.1)).getD 0) H (stand.getD (t.probeStart H)) = some (.empty (pb t.mask H (c + (K - c))).j none) by rw [e]; exact d2]
      rw [Nat.add_sub_cancel' le]
      refine wpAny_pure (no fun hm => ?_)
      obtain ⟨y, hy, ey⟩ := List.mem_map.mp hm
      obtain ⟨i, hi, rfl⟩ := List.getElem_of_mem hy
      obtain ⟨u, u1, u2, u3⟩ := ahead i _ (List.getElem?_eq_getElem hi) ey
      exact d1 (u - c) i (by omega) (by rw [Nat.add_sub_cancel' u1]; exact u3) (hash i _ (List.getElem?_eq_getElem hi) ey)
theorem seekA (R : SX P w s.heap a L es ep t) {x : Addr} {k : List Int} {H : Int} (hx : IsT P w s.heap k x) (eH : thash P w k = H) (hu : A.units < cLine) {Q : SetFound → Shared → Prop}
    (yes : k ∈ L.map (·.2) → Q (.there none) s)
    (no : ∀ K, k ∉ L.map (·.2) → way t.mask H K ∉ t.place.toList → (∀ c, c < K → way t.mask H c ∈ t.place.toList) → Q (.free (way t.mask H K) false) s) :
    wpAny (model P w) A (setSearch a (.ref x) H true) Q E s := by
  have f := R.free
  have top := R.tab.msk.top
  obtain ⟨K, b1, b2, b3⟩ := R.tab.first (by rw [List.length_map]; omega) H
  have b4 : K < 100000 := by unfold SetTable.turns at b1; omega
  unfold setSearch
  refine seek R hx eH hu b1 b2 b3 yes (fun z => no K z b2 b3) 100000 0 none rfl (Nat.zero_le _) (by omega) fun i y hy ey => ?_
  have hi : (L.map fun y => thash P w y.2)[i]? = some H := by
    rw [List.getElem?_map, hy, ← eH, ← ey]
    rfl
  have lt : i < t.place.toList.length := by
    have z := (List.getElem?_eq_some_iff.mp hy).1
    rw [Array.length_toList, R.tab.num, List.length_map]
    exact z
  obtain ⟨c, c1, c2⟩ := R.tab.ahead b2 hi (List.getElem?_eq_getElem lt)
  exact ⟨c, Nat.zero_le _, c1, by rw [c2]; exact List.getElem?_eq_getElem lt⟩
end
end Pt
namespace Pt
open PySem PySem.Spec PyProof.Rows L2
section
variable {P : Program} {w : World} {A : Around} {E : Value → Shared → Prop} {s : Shared} {a : Addr} {L : List (Addr × List Int)} {es : Array (Int × Value)} {ep : Nat} {t : SetTable}
theorem relayX {o : Obj} (ho : s.heap.get? a = some o) (hex : o.ExactSet) (hd : o.data = .set es ep t) (all : es.toList = rowsOf P w L) (num : t.place.size = es.size) (clean : t.dummies = #[]) (few : es.size ≤ t.mask)
    (one : (L.map (·.2)).Nodup) (rows : ∀ y ∈ L, IsT P w s.heap y.2 y.1) (pln : t.plain = true) (seen : w.params.followText "set-order" = true ∨ t.led = true) {n m : Nat}
    (e : SetTable.sizeAbove n = m + 1) (M : Msk m) (free : L.length * 5 < m * 3) {Q : Unit → Shared → Prop}
    (q : ∀ h' L' es' ep' t', Heap.SameBut a s.heap h' → SX P w h' a L' es' ep' t' → L'.Perm L → Q () { s with heap := h' }) : wpAny (model P w) A (setRelay a n) Q E s := by
  have len : es.size = L.length := by rw [← Array.length_toList, all, rowsOf_len]
  have top := M.top
  obtain ⟨t', ord, e1, e2, T, e3, e4, e5⟩ := relaid_tab t (hs := es.map (·.1)) (wanted := n) (m := m) (by omega) M (by rw [Array.size_map]; omega)
  rw [Array.size_map, len] at e2
  obtain ⟨L', f1, f2, f3⟩ := order_rows L es ord all e2
  have len' : (ord.filterMap (es[·]?)).size = L.length := by rw [← Array.length_toList, f1, rowsOf_len, f2.length_eq]
  rw [setRelay_eq]
  refine wpAny_bind (wpAny_setState_of ho hd (fits_of num clean few) (wp_if_neg (by rw [sizeLine_eq]; omega) ?_))
  (try refine wpAny_bind (wpAny_pure ?_))
  rw [e1]
  refine wpAny_bind (wp_if_neg (by rw [len', len]; simp) ?_)
  (try refine wpAny_bind (wpAny_pure ?_))
  refine wpAny_pure (wpAny_storeSet_of ho hd ?_ (by rw [len', sizeLine_eq]; omega))
  have but : Heap.SameBut a s.heap (s.heap.update a (Obj.putSet (ord.filterMap (es[·]?)) t')) := Heap.SameBut.update ..
  refine q _ L' _ (ep + 1) t' but ⟨⟨_, store_at ho hd, hex, rfl⟩, f1, f3 ▸ T, (f2.map (·.2)).nodup_iff.mpr one, fun y hy => isT_same (rows y (f2.mem_iff.mp hy)) ho hd but, e5.trans pln, seen.imp id e4.trans, ?_⟩ f2
  rw [f2.length_eq, e3]
  exact free
theorem addX (R : SX P w s.heap a L es ep t) {x : Addr} {k : List Int} (hx : IsT P w s.heap k x) (hu : A.units < cLine) (few : L.length < 250) {Q : Bool → Shared → Prop}
    (q : ∀ b h' L' es' ep' t', Heap.SameBut a s.heap h' → SX P w h' a L' es' ep' t' → (k ∈ L.map (·.2) → L' = L) → (k ∉ L.map (·.2) → L'.Perm ((x, k) :: L)) → Q b { s with heap := h' }) :
    wpAny (model P w) A (setAddHashed a (Value.ref x) (thash P w k)) Q E s := by
  obtain ⟨o, ho, hex, hd⟩ := R.at_
  obtain ⟨H, eH⟩ : ∃ H, thash P w k = H := ⟨_, rfl⟩
  have len := R.num
  have fr := R.free
  have top := R.tab.msk.top
  rw [eH]
  unfold setAddHashed
  refine wpAny_holding ?_
  rw [show setAddHashedIn a (.ref x) H 100000 = setAddHashedIn a (.ref x) H (99999 + 1) from rfl, setAddHashedIn_succ]
  refine wpAny_bind (wpAny_setState_of ho hd R.fit (wp_if_neg (by simp [byScan, Value.scannable]) ?_))
  (try refine wpAny_bind (wpAny_pure ?_))
  refine wpAny_bind (seekA R hx eH hu (fun hm => wpAny_pure (q false _ L es ep t (Heap.SameBut.refl a _) R (fun _ => rfl) fun z => absurd hm z)) fun K nw b2 b3 => ?_)
  refine wpAny_bind (wpAny_setState_of ho hd R.fit ?_)
  dsimp only
  obtain ⟨p, hp⟩ : ∃ p, SetTable.below t.place (way t.mask H K) = p := ⟨_, rfl⟩
  obtain ⟨lp, T⟩ := R.tab.put b2 b3 hp
  have e2 : (t.put (way t.mask H K)).2 = p := hp
  have e3 : (t.put (way t.mask H K)).1.mask = t.mask := rfl
  have e4 : (t.put (way t.mask H K)).1.led = t.led := rfl
  have e5 : (t.put (way t.mask H K)).1.plain = true := R.pln
  generalize t.put (way t.mask H K) = tp at T e2 e3 e4 e5 ⊢
  obtain ⟨t1, p1⟩ := tp
  dsimp only at T e2 e3 e4 e5 ⊢
  subst e2
  first
    | refine wpAny_bind (wp_if_pos e5 (hashBy_tup hx ?_))
    | refine wp_if_pos e5 (wpAny_bind (hashBy_tup hx ?_))
  simp only [if_true]
  have pm : (L.take p1 ++ (x, k) :: L.drop p1).Perm ((x, k) :: L) := put_perm L p1 (x, k)
  have all1 : (SetTable.insertAt es p1 (H, Value.ref x)).toList = rowsOf P w (L.take p1 ++ (x, k) :: L.drop p1) := by rw [SetTable.toList_insertAt, rows_put, R.all, eH]
  have T1 : Tab t1 ((L.take p1 ++ (x, k) :: L.drop p1).map fun y => thash P w y.2) := by
    rw [List.map_append, List.map_cons, List.map_take, List.map_drop, eH]
    exact T
  generalize SetTable.insertAt es p1 (H, Value.ref x) = es1 at all1 ⊢
  generalize L.take p1 ++ (x, k) :: L.drop p1 = L1 at pm all1 T1
  have len1 : L1.length = L.length + 1 := pm.length_eq
  have esz : es1.size = L.length + 1 := by rw [← Array.length_toList, all1, rowsOf_len, len1]
  have num1 : t1.place.size = es1.size := by rw [T1.num, List.length_map, len1, esz]
  have fill1 : t1.fill = L.length + 1 := by
    unfold SetTable.fill
    rw [num1, esz, T1.clean]
    rfl
  have one1 : (L1.map (·.2)).Nodup := (pm.map (·.2)).nodup_iff.mpr (List.nodup_cons.mpr ⟨nw, R.one⟩)
  refine wpAny_bind (wpAny_storeSet_of ho hd ?_ (by rw [esz, sizeLine_eq]; omega))
  have but : Heap.SameBut a s.heap (s.heap.update a (Obj.putSet es1 t1)) := Heap.SameBut.update ..
  have ho1 := store_at (t' := t1) (es' := es1) ho hd
  generalize s.heap.update a (Obj.putSet es1 t1) = h1 at but ho1 ⊢
  have rows1 : ∀ y ∈ L1, IsT P w h1 y.2 y.1 := fun y hy => by
    rcases List.mem_cons.mp (pm.mem_iff.mp hy) with z | z
    · exact z ▸ isT_same hx ho hd but
    · exact isT_same (R.rows y z) ho hd but
  have seen1 : w.params.followText "set-order" = true ∨ t1.led = true := e4 ▸ R.seen
  have full : t1.tooFull = true ↔ (L.length + 1) * 5 ≥ t.mask * 3 := by
    unfold SetTable.tooFull
    rw [decide_eq_true_eq, fill1, e3]
  by_cases fu : t1.tooFull = true
  · first
      | refine wpAny_bind (wp_if_pos (by simp [fu]) ?_)
      | refine wp_if_pos (by simp [fu]) (wpAny_bind ?_)
    have hf' := full.mp fu
    obtain ⟨m, m1, m2, m3⟩ : ∃ m, SetTable.sizeAbove (SetTable.grown (L.length + 1)) = m + 1 ∧ Msk m ∧ (L.length + 1) * 5 < m * 3 := by
      rcases R.tab.msk with z | z | z | z
      · exact ⟨31, by rw [show L.length + 1 = 5 by omega]; exact above_5, .inr (.inl rfl), by omega⟩
      · exact ⟨127, by rw [show L.length + 1 = 19 by omega]; exact above_19, .inr (.inr (.inl rfl)), by omega⟩
      · exact ⟨511, by rw [show L.length + 1 = 77 by omega]; exact above_77, .inr (.inr (.inr rfl)), by omega⟩
      · omega
    rw [len]
    refine relayX (s := { s with heap := h1 }) ho1 hex rfl all1 num1 T1.clean (by rw [esz, e3]; omega) one1 rows1 e5 seen1 m1 m2 (by rw [len1]; exact m3) fun h2 L2 es2 ep2 t2 but2 R2 pm2 => ?_
    exact wpAny_pure (q true h2 L2 es2 ep2 t2 (but.trans but2) R2 (fun z => absurd z nw) fun _ => pm2.trans pm)
  · first
      | refine wp_if_neg (by simp [fu]) ?_
      | refine wpAny_bind (wp_if_neg (by simp [fu]) (wpAny_pure ?_))
    have hf' : ¬ (L.length + 1) * 5 ≥ t.mask * 3 := fun z => fu (full.mpr z)
    exact wpAny_pure (q true h1 L1 es1 (ep + 1) t1 but ⟨⟨_, ho1, hex, rfl⟩, all1, T1, one1, rows1, e5, seen1, by rw [len1, e3]; omega⟩ (fun z => absurd z nw) fun _ => pm)
theorem SX.at_heap {h h' : Heap} (R : SX P w h a L es ep t) (e : ∀ o, h.get? a = some o → h'.get? a = some o) (r : ∀ y ∈ L, IsT P w h' y.2 y.1) : SX P w h' a L es ep t :=
  let ⟨o, ho, z⟩ := R.at_
  ⟨⟨o, e o ho, z⟩, R.all, R.tab, R.one, r, R.pln, R.seen, R.free⟩
theorem freshX {h : Heap} (ho : h.get? a = some { cls := .type "set", dict := none, data := .set #[] 0 (.fresh 0 0 (!w.params.followText "set-order")) }) :
    SX P w h a [] #[] 0 (.fresh 0 0 (!w.params.followText "set-order")) := by
  refine ⟨⟨_, ho, ⟨rfl, rfl, rfl⟩, rfl⟩, rfl, ⟨List.Pairwise.nil, rfl, rfl, .inl rfl, fun x z => (nomatch z), fun i _ _ z => ?_⟩, List.nodup_nil, fun y z => (nomatch z), rfl, ?_, (by decide : 0 * 5 < 7 * 3)⟩
  · simp at z
  · cases z : w.params.followText "set-order"
    · exact .inr rfl
    · exact .inl rfl
theorem loopX {I : Addr} {fp wr : List Addr} {G : Array GenState → Array GenState → Prop} {n : Nat} {Pv : Nat → Value → Prop} {St : Nat → Shared → Prop} {R : Result → Shared → Prop}
    (W : WalksS P w A.in1 I fp wr G n Pv St) (S : Addr) (nS : S ∉ fp) (ks : List (Addr × List Int)) (en : n = ks.length) (few : ks.length ≤ 250) (val : ∀ i v, Pv i v → ∃ y, ks[i]? = some y ∧ v = .ref y.1)
    (h0 : Heap) (rows : ∀ y ∈ ks, IsT P w h0 y.2 y.1) (S0 : h0.get? S = none) (w0 : ∀ b ∈ wr, h0.get? b = none) (hu : A.in1.units < cLine) :
    ∀ (c i : Nat) (s : Shared), i + c = n → St i s → (∀ b o, h0.get? b = some o → s.heap.get? b = some o) → (∃ L es ep t, SX P w s.heap S L es ep t ∧ Got ks i L) →
      (∀ s' L es ep t, Moved (S :: wr) G s s' → SX P w s'.heap S L es ep t → Got ks n L → (∀ b o, h0.get? b = some o → s'.heap.get? b = some o) → R (.ok (.ret .none)) s') →
      codeAny (model P w) A (.builtin "set.update.loop" { pos := [.ref S, .ref I] }) R s := by
  have Sw : S ∉ wr := fun z => nS (W.sub _ z)
  have wS : ∀ b ∈ wr, b ∈ S :: wr := fun b z => List.mem_cons_of_mem _ z
  have old : ∀ {s s' : Shared}, Moved wr G s s' → (∀ b o, h0.get? b = some o → s.heap.get? b = some o) → ∀ b o, h0.get? b = some o → s'.heap.get? b = some o := fun mv z b o e =>
    mv.heap b o (fun y => by rw [w0 b y] at e; cases e) (z b o e)
  have part : ∀ {i : Nat} {L}, Got ks i L → ∀ y ∈ L, y ∈ ks := fun g y hy => List.mem_of_mem_take (g.sub y hy)
  intro c
  induction c with
  | zero =>
    rintro i s rfl st keep ⟨L, es, ep, t, X, g⟩ q
    refine codeAny_builtin F.entry_set_update_loop ?_; rw [Around.under_plainId F.plain_set_update_loop _]
    refine (?_ : wpAny _ A.in1 (pyNext (.ref I) >>= _) _ _ s)
    refine wpAny_bind (W.done s _ _ st fun s' mv => ?_)
    have keep' := old mv keep
    exact wpAny_pure (q s' L es ep t (mv.mono wS) (X.at_heap (fun o e => mv.heap S o Sw e) fun y hy => isT_keep (rows y (part g y hy)) keep') g keep')
  | succ c ih =>
    rintro i s e st keep ⟨L, es, ep, t, X, g⟩ q
    refine codeAny_builtin F.entry_set_update_loop ?_; rw [Around.under_plainId F.plain_set_update_loop _]
    refine (?_ : wpAny _ A.in1 (pyNext (.ref I) >>= _) _ _ s)
    refine wpAny_bind (W.item i s _ _ (by omega) st fun v s' pv st' mv => ?_)
    obtain ⟨y, hy, rfl⟩ := val i v pv
    have keep' := old mv keep
    have X' : SX P w s'.heap S L es ep t := X.at_heap (fun o e => mv.heap S o Sw e) fun y hy => isT_keep (rows y (part g y hy)) keep'
    have hx : IsT P w s'.heap y.2 y.1 := isT_keep (rows y (List.mem_of_getElem? hy)) keep'
    refine (?_ : wpAny _ A.in1 (holding [Value.ref y.1] (setAdd S (.ref y.1)) >>= _) _ _ s')
    refine wpAny_bind (wpAny_holding ?_); unfold setAdd
    have gl := g.len
    refine wpAny_holding (wpAny_bind (wpAny_pyHash_tuple hu hx (addX (s := { s' with toks := s'.toks + (y.2.length + 1) }) X' hx hu (by omega) fun b h' L' es' ep' t' but X2 c1 c2 => ?_)))
    have g2 : Got ks (i + 1) L' := by
      by_cases z : y.2 ∈ L.map (·.2)
      · exact c1 z ▸ g.same hy z
      · exact g.more hy (c2 z)
    have keep2 : ∀ b o, h0.get? b = some o → h'.get? b = some o := fun b o e => (but.2 b fun z => by rw [z, S0] at e; cases e).trans (keep' b o e)
    refine wpAny_pure ⟨plainId_quiet F.plain_set_update_loop _, ih (i + 1) _ (by omega) (W.frame _ s' _ _ st' (Nat.le_add_right _ _) fun b hb o e => ?_) keep2 ⟨L', es', ep', t', X2, g2⟩ fun s2 L2 es2 ep2 t2 mv2 X3 g3 keep3 => ?_⟩
    · exact (but.2 b fun z => nS (z ▸ hb)).trans e
    · exact q s2 L2 es2 ep2 t2 (Moved.trans W.gtrans ((mv.mono wS).then_heap (Nat.le_add_right _ _) fun b o hb e => (but.2 b fun z => hb (z ▸ List.mem_cons_self)).trans e) mv2) X3 g3 keep3
end
end Pt
namespace Pt
open PySem PySem.Spec PyProof.Rows L2
abbrev newS (b : Bool) : Obj := { cls := .type "set", dict := none, data := .set #[] 0 (.fresh 0 0 b) }
section
variable {P : Program} {w : World} {A : Around} {s : Shared} {E : Value → Shared → Prop}
set_option maxHeartbeats 4100000 in
theorem callX {l : Addr} {items : Array Value} (ks : List (Addr × List Int)) {Q : Value → Shared → Prop} (calm : A.handled = none) (hl : s.heap.IsList l items) (hit : items.toList = ks.map fun y => Value.ref y.1)
    (rows : ∀ y ∈ ks, IsT P w s.heap y.2 y.1) (few : ks.length ≤ 250) (hu : A.units + 3 < cLine)
    (q : ∀ (h' : Heap) (tk : Nat) L es ep t, SX P w h' s.heap.objs.size L es ep t → Got ks ks.length L → (∀ b o, s.heap.get? b = some o → h'.get? b = some o) → Q (.ref s.heap.objs.size) { s with heap := h', toks := tk }) :
    wpAny (model P w) A (call (.type "set") [Value.ref l]) Q E s := by
  obtain ⟨led, eled⟩ : ∃ b, (!w.params.followText "set-order") = b := ⟨_, rfl⟩
  have num : items.size = ks.length := by rw [← Array.length_toList, hit, List.length_map]
  obtain ⟨c0, tl0, r0⟩ := F.called_set.mro
  have r1 := F.called_set.made
  have r2 := F.called_set.sub
  refine wpAny_call (codeAny_of_tree (?_ : wpAny _ _ (callAny (.type "set") _) _ _ _))
  refine wpAny_pure ⟨Code.quiet_builtin _ (by decide +kernel), codeAny_builtin F.entry_type_call ?_⟩; rw [Around.under_plain (weight_type_call_type "set" [.ref l] []) rfl]
  have r3 := F.called_set.notType
  have r4 := F.called_set.canCreate
  have r5 := F.typeCall_set_1 (.ref l)
  repeat any_goals first | assumption | wp_step
  refine codeAny_mono (code_set_led1 (.ref l) (E := E) (Q₁ := fun v s1 => v = .ref s.heap.objs.size ∧ s1 = { s with heap := s.heap.push (newS led) }) ⟨rfl, by rw [← eled]⟩) fun r s1 hr => ?_
  rcases r with e | fl
  · exact hr
  cases fl with
  | ret v =>
    obtain ⟨rfl, rfl⟩ := hr
    have get0 : (s.heap.push (newS led)).get? s.heap.objs.size = some (newS led) := Heap.get?_push_size _ rfl
    have ty0 : Shared.TypeIs { s with heap := s.heap.push (newS led) } (.ref s.heap.objs.size) "set" := ⟨_, get0, rfl⟩
    have r6 := F.called_set.init.lookup
    have r7 := F.called_set.init.bind (.ref s.heap.objs.size)
    repeat any_goals first | assumption | wp_step
    refine codeAny_mono (codeAny_call_builtin (R := wants (fun r s2 => r = .none ∧ ∃ h' tk L es ep t, s2 = { s with heap := h', toks := tk } ∧ SX P w h' s.heap.objs.size L es ep t ∧ Got ks ks.length L ∧
      ∀ b o, s.heap.get? b = some o → h'.get? b = some o) E) F.called_set.init.plain F.entry_set_init (check_set_init_1 ty0 ?_)) fun r2 s2 hr2 => ?_
    · obtain ⟨⟨lc, ld, lda, lsl⟩, hol, hcl, nl, hdl⟩ := hl
      dsimp only at hcl hdl
      subst hcl hdl
      have hl1 : (s.heap.push (newS led)).IsList l items := ⟨_, Heap.get?_push_of_some _ hol, rfl, nl, rfl⟩
      have hol1 : (s.heap.push (newS led)).get? l = some { cls := .type "list", dict := ld, data := .seq items nl, slots := lsl } := Heap.get?_push_of_some _ hol
      have r8 := F.sub_list_set
      have r9 := F.sub_list_frozenset
      have r10 : (Value.type "list" == Value.type "dict") = false := by decide
      unfold Builtin.«set.__init__» noKeywords Builtin.Frozenset.updateFrom; generalize eIt : pyIter = it
      wp_walk
      subst eIt
      refine wpAny_pyIter_list hl1 (wpAny_bind (wpAny_runValue ?_))
      have lt : l < s.heap.objs.size := Heap.lt_size hol
      have out : ∀ b, s.heap.objs.size ≤ b → s.heap.get? b = none := fun b hb => by
        cases z : s.heap.get? b with
        | none => rfl
        | some o => exact absurd (Nat.lt_of_lt_of_le (Heap.lt_size z) hb) (Nat.lt_irrefl _)
      have calm3 : A.in1.in1.in1.handled = none := by simp [calm]
      have sz1 : (s.heap.push (newS led)).objs.size = s.heap.objs.size + 1 := Heap.size_push ..
      have val : ∀ (i : Nat) v, items[i]? = some v → ∃ y, ks[i]? = some y ∧ v = Value.ref y.1 := fun i v z => by
        rw [← Array.getElem?_toList, hit, List.getElem?_map] at z
        obtain ⟨y, hy, rfl⟩ := Option.map_eq_some_iff.mp z
        exact ⟨y, hy, rfl⟩
      refine loopX ((Walks.list calm3 _ l (by rw [sz1]; exact Nat.ne_of_lt (Nat.lt_succ_of_lt lt)) items).toS) s.heap.objs.size ?nS ks num few val s.heap rows (out _ (Nat.le_refl _)) ?w0 hu items.size 0 _ (Nat.zero_add _)
        ⟨⟨_, Heap.get?_push_size _ rfl, rfl, rfl⟩, hl1.push _⟩ (fun b o e => Heap.get?_push_of_some _ (Heap.get?_push_of_some _ e)) ?X0 ?fin
      case nS =>
        rw [sz1]
        intro z
        rcases List.mem_cons.mp z with y | y
        · exact absurd y (Nat.ne_of_lt (Nat.lt_succ_self _))
        · exact absurd (List.mem_singleton.mp y) (Nat.ne_of_gt lt)
      case w0 =>
        intro b hb
        rw [List.mem_singleton.mp hb, sz1]
        exact out _ (Nat.le_succ _)
      case X0 =>
        subst eled
        exact ⟨[], #[], 0, _, freshX (Heap.get?_push_of_some _ get0), Got.zero ks⟩
      case fin =>
        rintro ⟨h', g2, d2, tk, os2⟩ L es ep t mv X g keep
        obtain rfl : g2 = s.gens := mv.gens
        obtain rfl : d2 = s.drawn := mv.drawn
        obtain rfl : os2 = s.os := mv.os
        refine (?_ : wpAny _ _ _ _ _ _)
        refine wpAny_pure (?_ : wpAny _ _ (ret Value.none) _ _ _)
        exact wpAny_pure ⟨rfl, h', tk, L, es, ep, t, rfl, X, num ▸ g, keep⟩
    · rcases r2 with e | fl2
      · exact hr2
      cases fl2 with
      | ret r =>
        obtain ⟨rfl, h', tk, L, es, ep, t, rfl, X, g, keep⟩ := hr2
        repeat any_goals first | assumption | wp_step
        exact q _ _ _ _ _ _ X g keep
      | _ => exact hr2.elim
  | _ => exact hr.elim
end
section
variable {X : Cx}
def tLenSetR (K : PySem.W.Frag) (te : TE) : TE := fun σ H Q => te σ H fun x H1 => ∃ (l : Addr) (ks : List (Addr × List Int)), x = V.ref l ∧ SqL K H1 l (ks.map fun y => V.ref y.1) ∧ (∀ y ∈ ks, SqT K H1 y.1 (y.2.map V.int)) ∧ ks.length ≤ 250 ∧
  ∀ D : List (List Int), D.Nodup → (∀ k, k ∈ D ↔ k ∈ ks.map (·.2)) → Q (.int D.length) H1
theorem pe_lenSetR {e : Expr} {te : TE} {p p2 q pos : Pos} (calm : X.calm = true) (hu : X.A.units + 64 < cLine) (g1 : Gl X "len") (m1 : X.mg "len" = none) (g2 : Gl X "set") (m2 : X.mg "set" = none) (he : PE X e te)
    (one : starEach [e] X.env = (false, eval e X.env) :: starEach [] X.env := by rfl) : PE X (.Call (.Name "len" p) [.Call (.Name "set" p2) [e] [] q] [] pos) (tLenSetR X.K te) := by
  constructor
  intro pins s σ H Q I h
  refine Call_ (ld_blt I g1 m1 PySem.boot_len (PyProof.Rows.callWith_builtin1 (PyProof.Rows.args_cons ?_ rfl) rfl rfl))
  refine Call_ (ld_blt I g2 m2 PyProof.Rows.boot_set ?_)
  refine PyProof.Rows.callWith_type1 (PyProof.Rows.args_cons (thn (he.run pins s σ H _ I h) fun v s1 z => PyProof.Rows.args_nil ?_) one) one rfl
  obtain ⟨x, H1, I1, rx, l, ks, rfl, hl, hk, few, q1⟩ := z
  cases rx
  obtain ⟨its, rv, pl, hz⟩ := I1.list hl
  refine callX (P := X.prog) (w := X.w) ks (I1.ok.hd calm) pl.isList (by simpa using refs_of_vals rv) (fun y hy => I1.isT (hk y hy)) few (by omega) fun h' tk L es ep t R g keep => ?_
  refine (PyProof.Rows.args_nil ?_); obtain ⟨o, ho, hex, hd⟩ := R.at_
  have top := R.tab.msk.top
  have fr := R.free
  have I2 : Inv X pins σ H1 { s1 with heap := h', toks := tk } := I1.kept keep
  refine call_len_set ho hex hd R.fit (by rw [R.num]; omega) ⟨.int (L.map (·.2)).length, H1, I2.tok _, ⟨_, by rw [R.num, List.length_map]⟩, q1 _ R.one fun k => ⟨fun z => ?_, fun z => ?_⟩⟩
  · obtain ⟨y, hy, rfl⟩ := List.mem_map.mp z
    exact List.mem_map.mpr ⟨y, List.mem_of_mem_take (g.sub y hy), rfl⟩
  · obtain ⟨y, hy, rfl⟩ := List.mem_map.mp z
    exact g.all y (by rw [List.take_length]; exact hy)
end
end Pt
namespace Pt
open PySem PySem.Spec PyProof.Rows L2
theorem pe_lenSetK {X : Cx} (K : PySem.W.Frag) {e : Expr} {te : TE} {p p2 q pos : Pos} (calm : X.calm = true) (hu : X.A.units + 65 < cLine) (g1 : Gl X "len") (m1 : X.mg "len" = none) (g2 : Gl X "set") (m2 : X.mg "set" = none) (he : PE X e te)
    (hK : X.K = K := by rfl) (one : starEach [e] X.env = (false, eval e X.env) :: starEach [] X.env := by rfl) : PE X (.Call (.Name "len" p) [.Call (.Name "set" p2) [e] [] q] [] pos) (tLenSetR K te) :=
  hK ▸ pe_lenSetR calm (by omega) g1 m1 g2 m2 he one
theorem cr_maxK {X : Cx} (K : PySem.W.Frag) (hc : X.calm = true) (h : X.K = K := by rfl) : CallR X (.builtin "max") (rMax K) := h ▸ cr_max hc
variable {K : PySem.W.Frag} {C : Addr} {H H' H1 H2 : Hp} {v w x y : V} {vs : List V} {d e : PyData} {ds es : List PyData}
variable {S : List Addr} {G : List (V × PyData)} {H0 : Hp} {σ : L2.St} {Γ : List Ct} {i j k l m : Nat} {c : Ct} {te ta tb tc tl ty td tv : TE} {t u : TT} {ts : TA}
variable {D : Ends} {tu tw tz : TS} {p q f : Addr} {E E' : XK} {P : Program} {W : World} {R R2 : PyData → Prop}
theorem rows_at {H : Hp} : ∀ {L : List (List Int)} {xs : List V}, TdAll K H xs (L.map row) → ∃ ks : List (Addr × List Int), xs = ks.map (fun y => V.ref y.1) ∧ ks.map (·.2) = L ∧ ∀ y ∈ ks, SqT K H y.1 (y.2.map V.int)
  | [], xs, h => by
    cases h
    exact ⟨[], rfl, rfl, fun _ z => by cases z⟩
  | r :: L, xs, h => by
    cases h with
    | cons h1 h2 =>
      obtain ⟨ks, rfl, rfl, h3⟩ := rows_at h2
      obtain ⟨b, rfl, s⟩ := row_of h1
      exact ⟨(b, r) :: ks, rfl, rfl, fun y hy => by
        rcases List.mem_cons.mp hy with z | z
        · rw [z]; exact s.sq
        · exact h3 y z⟩
theorem ev_lenSetN {L : List (List Int)} (h : EvN K C te σ H (L.map row)) (few : L.length ≤ 250) {D : List (List Int)} (nd : D.Nodup) (hm : ∀ r, r ∈ D ↔ r ∈ L) : EvC K C (tLenSetR K te) σ H (.d (.int (D.length : Nat))) := fun H1 e1 Q q =>
  h H1 e1 _ fun p H2 hp e2 a => by
    obtain ⟨_, xs, s, t⟩ := a
    obtain ⟨ks, rfl, rfl, hk⟩ := rows_at t
    refine ⟨p, ks, rfl, SqL.of s, hk, by simpa using few, fun D' nd' hm' => ?_⟩
    have e : D'.length = D.length := by
      refine (List.perm_ext_iff_of_nodup nd' nd).mpr (fun r => ?_) |>.length_eq
      rw [hm', hm]
    rw [e]
    exact q _ _ e2 (.int _)
theorem ev_maxL {p : Addr} {ns : List Int} {M : Int} (h : EvC K C te σ H (.l p (iL ns))) (hM : M ∈ ns) (top : ∀ y ∈ ns, y ≤ M) : EvC K C (tCB (rMax K) (tCons te tNil)) σ H (.d (.int M)) := fun H1 e1 Q q => h H1 e1 _ fun v H2 e2 a => by
  obtain ⟨rfl, xs, s, t⟩ := a
  rw [t.iL_of] at s
  refine ⟨p, ns, rfl, SqL.of s, List.length_pos_of_mem hM, fun m h1 h2 => ?_⟩
  have e : m = M := Int.le_antisymm (top m h1) (h2 M hM)
  rw [e]
  exact q _ H2 e2 (.int _)
end Pt
set_option maxRecDepth 10000000
set_option maxHeartbeats 8000000
namespace K1
open PySem PySem.Spec PyProof.Rows L2 Pt
def topS (i : Nat) : Stmt := PySem.Challenge.pw_placetrade_k18_whole_counts_of_letters.main.body.getD i (.Pass ⟨0, 0, 0, 0⟩)
abbrev s_is_whole : Stmt := topS 11
abbrev N_is_whole : List Str := ["value", "low", "high"]
theorem sc_is_whole : FnScope N_is_whole ["value", "low", "high"] (defScope s_is_whole) := ⟨rfl, rfl, rfl, by decide +kernel, rfl, by decide +kernel, by decide +kernel⟩
abbrev s_is_letter : Stmt := topS 12
abbrev N_is_letter : List Str := ["letters", "value"]
theorem sc_is_letter : FnScope N_is_letter ["letters", "value"] (defScope s_is_letter) := ⟨rfl, rfl, rfl, by decide +kernel, rfl, by decide +kernel, by decide +kernel⟩
abbrev s_is_pair : Stmt := topS 13
abbrev N_is_pair : List Str := ["letters", "value", "letter"]
theorem sc_is_pair : FnScope N_is_pair ["letters", "value"] (defScope s_is_pair) := ⟨rfl, rfl, rfl, by decide +kernel, rfl, by decide +kernel, by decide +kernel⟩
abbrev s_check_pairs : Stmt := topS 14
abbrev N_check_pairs : List Str := ["letters", "pairs", "index", "pair"]
theorem sc_check_pairs : FnScope N_check_pairs ["letters", "pairs"] (defScope s_check_pairs) := ⟨rfl, rfl, rfl, by decide +kernel, rfl, by decide +kernel, by decide +kernel⟩
abbrev s_Trade___init__ : Stmt := inClass (topS 15) 0
abbrev N_Trade___init__ : List Str := ["self", "letters", "pairs"]
theorem sc_Trade___init__ : FnScope N_Trade___init__ ["self", "letters", "pairs"] (defScope s_Trade___init__) := ⟨rfl, rfl, rfl, by decide +kernel, rfl, by decide +kernel, by decide +kernel⟩
abbrev s_Trade_letters : Stmt := inClass (topS 15) 1
abbrev N_Trade_letters : List Str := ["self"]
theorem sc_Trade_letters : FnScope N_Trade_letters ["self"] (defScope s_Trade_letters) := ⟨rfl, rfl, rfl, by decide +kernel, rfl, by decide +kernel, by decide +kernel⟩
abbrev s_Trade_pairs : Stmt := inClass (topS 15) 2
abbrev N_Trade_pairs : List Str := ["self"]
theorem sc_Trade_pairs : FnScope N_Trade_pairs ["self"] (defScope s_Trade_pairs) := ⟨rfl, rfl, rfl, by decide +kernel, rfl, by decide +kernel, by decide +kernel⟩
abbrev s_Trade___eq__ : Stmt := inClass (topS 15) 3
abbrev s_check_trade : Stmt := topS 16
abbrev N_check_trade : List Str := ["trade"]
theorem sc_check_trade : FnScope N_check_trade ["trade"] (defScope s_check_trade) := ⟨rfl, rfl, rfl, by decide +kernel, rfl, by decide +kernel, by decide +kernel⟩
abbrev s_may_change : Stmt := topS 17
abbrev N_may_change : List Str := ["trade", "one", "other"]
theorem sc_may_change : FnScope N_may_change ["trade", "one", "other"] (defScope s_may_change) := ⟨rfl, rfl, rfl, by decide +kernel, rfl, by decide +kernel, by decide +kernel⟩
abbrev s_bars_of : Stmt := topS 18
abbrev N_bars_of : List Str := ["trade", "bars", "letter", "bits", "other"]
theorem sc_bars_of : FnScope N_bars_of ["trade"] (defScope s_bars_of) := ⟨rfl, rfl, rfl, by decide +kernel, rfl, by decide +kernel, by decide +kernel⟩
abbrev s_all_groups : Stmt := topS 21
abbrev N_all_groups : List Str := ["trade", "found", "letter", "group"]
theorem sc_all_groups : FnScope N_all_groups ["trade"] (defScope s_all_groups) := ⟨rfl, rfl, rfl, by decide +kernel, rfl, by decide +kernel, by decide +kernel⟩
abbrev s_may_join : Stmt := topS 22
abbrev N_may_join : List Str := ["trade", "group", "letter", "other"]
theorem sc_may_join : FnScope N_may_join ["trade", "group", "letter"] (defScope s_may_join) := ⟨rfl, rfl, rfl, by decide +kernel, rfl, by decide +kernel, by decide +kernel⟩
abbrev s_signed_counts : Stmt := topS 23
abbrev N_signed_counts : List Str := ["trade", "counts", "group"]
theorem sc_signed_counts : FnScope N_signed_counts ["trade"] (defScope s_signed_counts) := ⟨rfl, rfl, rfl, by decide +kernel, rfl, by decide +kernel, by decide +kernel⟩
abbrev s_sign : Stmt := topS 24
abbrev N_sign : List Str := ["number"]
theorem sc_sign : FnScope N_sign ["number"] (defScope s_sign) := ⟨rfl, rfl, rfl, by decide +kernel, rfl, by decide +kernel, by decide +kernel⟩
abbrev s_how_many : Stmt := topS 25
abbrev N_how_many : List Str := ["trade", "length", "counts", "found", "now", "total", "size"]
theorem sc_how_many : FnScope N_how_many ["trade", "length"] (defScope s_how_many) := ⟨rfl, rfl, rfl, by decide +kernel, rfl, by decide +kernel, by decide +kernel⟩
abbrev s_is_row : Stmt := topS 28
abbrev N_is_row : List Str := ["letters", "value", "letter"]
theorem sc_is_row : FnScope N_is_row ["letters", "value"] (defScope s_is_row) := ⟨rfl, rfl, rfl, by decide +kernel, rfl, by decide +kernel, by decide +kernel⟩
abbrev s_check_row : Stmt := topS 29
abbrev N_check_row : List Str := ["trade", "row"]
theorem sc_check_row : FnScope N_check_row ["trade", "row"] (defScope s_check_row) := ⟨rfl, rfl, rfl, by decide +kernel, rfl, by decide +kernel, by decide +kernel⟩
abbrev s_least : Stmt := topS 30
abbrev N_least : List Str := ["trade", "row"]
theorem sc_least : FnScope N_least ["trade", "row"] (defScope s_least) := ⟨rfl, rfl, rfl, by decide +kernel, rfl, by decide +kernel, by decide +kernel⟩
abbrev s_first_letters : Stmt := topS 31
abbrev N_first_letters : List Str := ["bars", "row", "found", "barred", "place", "letter"]
theorem sc_first_letters : FnScope N_first_letters ["bars", "row"] (defScope s_first_letters) := ⟨rfl, rfl, rfl, by decide +kernel, rfl, by decide +kernel, by decide +kernel⟩
abbrev s_without : Stmt := topS 32
abbrev N_without : List Str := ["row", "place"]
theorem sc_without : FnScope N_without ["row", "place"] (defScope s_without) := ⟨rfl, rfl, rfl, by decide +kernel, rfl, by decide +kernel, by decide +kernel⟩
abbrev s_least_of : Stmt := topS 33
abbrev N_least_of : List Str := ["bars", "row", "found", "left", "letter", "place"]
theorem sc_least_of : FnScope N_least_of ["bars", "row"] (defScope s_least_of) := ⟨rfl, rfl, rfl, by decide +kernel, rfl, by decide +kernel, by decide +kernel⟩
abbrev s_check_counts : Stmt := topS 37
abbrev N_check_counts : List Str := ["trade", "counts", "count"]
theorem sc_check_counts : FnScope N_check_counts ["trade", "counts"] (defScope s_check_counts) := ⟨rfl, rfl, rfl, by decide +kernel, rfl, by decide +kernel, by decide +kernel⟩
abbrev s_how_many_with : Stmt := topS 38
abbrev N_how_many_with : List Str := ["trade", "counts", "chosen", "groups", "found", "place", "total", "back", "worth"]
theorem sc_how_many_with : FnScope N_how_many_with ["trade", "counts"] (defScope s_how_many_with) := ⟨rfl, rfl, rfl, by decide +kernel, rfl, by decide +kernel, by decide +kernel⟩
abbrev s_choices_up_to : Stmt := topS 39
abbrev N_choices_up_to : List Str := ["counts", "found", "letter", "count", "bits", "many"]
theorem sc_choices_up_to : FnScope N_choices_up_to ["counts"] (defScope s_choices_up_to) := ⟨rfl, rfl, rfl, by decide +kernel, rfl, by decide +kernel, by decide +kernel⟩
abbrev s_groups_within : Stmt := topS 40
abbrev N_groups_within : List Str := ["trade", "counts", "told", "found", "bits", "group", "own", "back", "worth"]
theorem sc_groups_within : FnScope N_groups_within ["trade", "counts"] (defScope s_groups_within) := ⟨rfl, rfl, rfl, by decide +kernel, rfl, by decide +kernel, by decide +kernel⟩
abbrev s_bits_of : Stmt := topS 41
abbrev N_bits_of : List Str := ["group", "letter"]
theorem sc_bits_of : FnScope N_bits_of ["group"] (defScope s_bits_of) := ⟨rfl, rfl, rfl, by decide +kernel, rfl, by decide +kernel, by decide +kernel⟩
abbrev s_far_back : Stmt := topS 42
abbrev N_far_back : List Str := ["counts", "group", "total", "letter", "count"]
theorem sc_far_back : FnScope N_far_back ["counts", "group"] (defScope s_far_back) := ⟨rfl, rfl, rfl, by decide +kernel, rfl, by decide +kernel, by decide +kernel⟩
abbrev s_least_with : Stmt := topS 43
abbrev N_least_with : List Str := ["trade", "counts", "letter", "count", "_"]
theorem sc_least_with : FnScope N_least_with ["trade", "counts"] (defScope s_least_with) := ⟨rfl, rfl, rfl, by decide +kernel, rfl, by decide +kernel, by decide +kernel⟩
abbrev s__law_mix : Stmt := topS 45
abbrev N__law_mix : List Str := ["_law_script", "_law_seed", "_law_state", "_law_cell"]
theorem sc__law_mix : FnScope N__law_mix ["_law_script", "_law_seed"] (defScope s__law_mix) := ⟨rfl, rfl, rfl, by decide +kernel, rfl, by decide +kernel, by decide +kernel⟩
abbrev s__law_next : Stmt := topS 46
abbrev N__law_next : List Str := ["_law_h", "_law_bound", "_law_cell", "_law_cells"]
theorem sc__law_next : FnScope N__law_next ["_law_h", "_law_bound"] (defScope s__law_next) := ⟨rfl, rfl, rfl, by decide +kernel, rfl, by decide +kernel, by decide +kernel⟩
abbrev s__law_pairs : Stmt := topS 47
abbrev N__law_pairs : List Str := ["_law_h", "_law_letters", "_law_kind", "_law_found", "_law_a", "_law_b"]
theorem sc__law_pairs : FnScope N__law_pairs ["_law_h", "_law_letters"] (defScope s__law_pairs) := ⟨rfl, rfl, rfl, by decide +kernel, rfl, by decide +kernel, by decide +kernel⟩
abbrev s__law_may : Stmt := topS 49
abbrev N__law_may : List Str := ["_law_pairs_here", "_law_a", "_law_b"]
theorem sc__law_may : FnScope N__law_may ["_law_pairs_here", "_law_a", "_law_b"] (defScope s__law_may) := ⟨rfl, rfl, rfl, by decide +kernel, rfl, by decide +kernel, by decide +kernel⟩
abbrev s__law_rows : Stmt := topS 51
abbrev N__law_rows : List Str := ["_law_counts", "_law_found", "_law_a", "_law_left", "_law_row_here"]
theorem sc__law_rows : FnScope N__law_rows ["_law_counts"] (defScope s__law_rows) := ⟨rfl, rfl, rfl, by decide +kernel, rfl, by decide +kernel, by decide +kernel⟩
abbrev s__law_all_counts : Stmt := topS 52
abbrev N__law_all_counts : List Str := ["_law_letters", "_law_length", "_law_found", "_law_first", "_law_row_here"]
theorem sc__law_all_counts : FnScope N__law_all_counts ["_law_letters", "_law_length"] (defScope s__law_all_counts) := ⟨rfl, rfl, rfl, by decide +kernel, rfl, by decide +kernel, by decide +kernel⟩
abbrev s__law_many : Stmt := topS 53
abbrev N__law_many : List Str := ["_law_pairs_here", "_law_counts", "_law_rows_here", "_law_letters", "_law_turn", "_law_later", "_law_left", "_law_barred", "_law_a", "_law_new", "_law_near", "_law_key", "_law_b"]
theorem sc__law_many : FnScope N__law_many ["_law_pairs_here", "_law_counts"] (defScope s__law_many) := ⟨rfl, rfl, rfl, by decide +kernel, rfl, by decide +kernel, by decide +kernel⟩
abbrev s__law_far : Stmt := topS 54
abbrev N__law_far : List Str := ["_law_h", "_law_letters", "_law_pairs_here", "_law_told", "_law_most", "_law_counts", "_law_due", "_law_a"]
theorem sc__law_far : FnScope N__law_far ["_law_h"] (defScope s__law_far) := ⟨rfl, rfl, rfl, by decide +kernel, rfl, by decide +kernel, by decide +kernel⟩
abbrev s_law : Stmt := topS 55
abbrev N_law : List Str := ["_law_script", "_law_h", "_law_letters", "_law_told", "_law_counts", "_law_every", "_law_length", "_law_a", "_law_row_here", "_law_one"]
theorem sc_law : FnScope N_law ["_law_script"] (defScope s_law) := ⟨rfl, rfl, rfl, by decide +kernel, rfl, by decide +kernel, by decide +kernel⟩
set_option genInjectivity false in
set_option genSizeOf false in
structure Nv (K : PySem.W.Frag) (mg : Str → Option Value) : Type where
  a_is_whole : Addr
  d_is_whole : FuncData
  F_is_whole : Fun K "is_whole" "is_whole" s_is_whole a_is_whole d_is_whole
  b_is_whole : Binds K d_is_whole ["value", "low", "high"] []
  m_is_whole : mg "is_whole" = some (.ref a_is_whole)
  a_is_letter : Addr
  d_is_letter : FuncData
  F_is_letter : Fun K "is_letter" "is_letter" s_is_letter a_is_letter d_is_letter
  b_is_letter : Binds K d_is_letter ["letters", "value"] []
  m_is_letter : mg "is_letter" = some (.ref a_is_letter)
  a_is_pair : Addr
  d_is_pair : FuncData
  F_is_pair : Fun K "is_pair" "is_pair" s_is_pair a_is_pair d_is_pair
  b_is_pair : Binds K d_is_pair ["letters", "value"] []
  m_is_pair : mg "is_pair" = some (.ref a_is_pair)
  a_check_pairs : Addr
  d_check_pairs : FuncData
  F_check_pairs : Fun K "check_pairs" "check_pairs" s_check_pairs a_check_pairs d_check_pairs
  b_check_pairs : Binds K d_check_pairs ["letters", "pairs"] []
  m_check_pairs : mg "check_pairs" = some (.ref a_check_pairs)
  a_Trade___init__ : Addr
  d_Trade___init__ : FuncData
  F_Trade___init__ : Fun K "__init__" "Trade.__init__" s_Trade___init__ a_Trade___init__ d_Trade___init__
  b_Trade___init__ : Binds K d_Trade___init__ ["self", "letters", "pairs"] []
  a_Trade_letters : Addr
  d_Trade_letters : FuncData
  F_Trade_letters : Fun K "letters" "Trade.letters" s_Trade_letters a_Trade_letters d_Trade_letters
  b_Trade_letters : Binds K d_Trade_letters ["self"] []
  a_Trade_pairs : Addr
  d_Trade_pairs : FuncData
  F_Trade_pairs : Fun K "pairs" "Trade.pairs" s_Trade_pairs a_Trade_pairs d_Trade_pairs
  b_Trade_pairs : Binds K d_Trade_pairs ["self"] []
  a_Trade___eq__ : Addr
  d_Trade___eq__ : FuncData
  F_Trade___eq__ : Fun K "__eq__" "Trade.__eq__" s_Trade___eq__ a_Trade___eq__ d_Trade___eq__
  b_Trade___eq__ : Binds K d_Trade___eq__ ["self", "other"] []
  a_check_trade : Addr
  d_check_trade : FuncData
  F_check_trade : Fun K "check_trade" "check_trade" s_check_trade a_check_trade d_check_trade
  b_check_trade : Binds K d_check_trade ["trade"] []
  m_check_trade : mg "check_trade" = some (.ref a_check_trade)
  a_may_change : Addr
  d_may_change : FuncData
  F_may_change : Fun K "may_change" "may_change" s_may_change a_may_change d_may_change
  b_may_change : Binds K d_may_change ["trade", "one", "other"] []
  m_may_change : mg "may_change" = some (.ref a_may_change)
  a_bars_of : Addr
  d_bars_of : FuncData
  F_bars_of : Fun K "bars_of" "bars_of" s_bars_of a_bars_of d_bars_of
  b_bars_of : Binds K d_bars_of ["trade"] []
  m_bars_of : mg "bars_of" = some (.ref a_bars_of)
  a_all_groups : Addr
  d_all_groups : FuncData
  F_all_groups : Fun K "all_groups" "all_groups" s_all_groups a_all_groups d_all_groups
  b_all_groups : Binds K d_all_groups ["trade"] []
  m_all_groups : mg "all_groups" = some (.ref a_all_groups)
  a_may_join : Addr
  d_may_join : FuncData
  F_may_join : Fun K "may_join" "may_join" s_may_join a_may_join d_may_join
  b_may_join : Binds K d_may_join ["trade", "group", "letter"] []
  m_may_join : mg "may_join" = some (.ref a_may_join)
  a_signed_counts : Addr
  d_signed_counts : FuncData
  F_signed_counts : Fun K "signed_counts" "signed_counts" s_signed_counts a_signed_counts d_signed_counts
  b_signed_counts : Binds K d_signed_counts ["trade"] []
  m_signed_counts : mg "signed_counts" = some (.ref a_signed_counts)
  a_sign : Addr
  d_sign : FuncData
  F_sign : Fun K "sign" "sign" s_sign a_sign d_sign
  b_sign : Binds K d_sign ["number"] []
  m_sign : mg "sign" = some (.ref a_sign)
  a_how_many : Addr
  d_how_many : FuncData
  F_how_many : Fun K "how_many" "how_many" s_how_many a_how_many d_how_many
  b_how_many : Binds K d_how_many ["trade", "length"] []
  m_how_many : mg "how_many" = some (.ref a_how_many)
  a_is_row : Addr
  d_is_row : FuncData
  F_is_row : Fun K "is_row" "is_row" s_is_row a_is_row d_is_row
  b_is_row : Binds K d_is_row ["letters", "value"] []
  m_is_row : mg "is_row" = some (.ref a_is_row)
  a_check_row : Addr
  d_check_row : FuncData
  F_check_row : Fun K "check_row" "check_row" s_check_row a_check_row d_check_row
  b_check_row : Binds K d_check_row ["trade", "row"] []
  m_check_row : mg "check_row" = some (.ref a_check_row)
  a_least : Addr
  d_least : FuncData
  F_least : Fun K "least" "least" s_least a_least d_least
  b_least : Binds K d_least ["trade", "row"] []
  m_least : mg "least" = some (.ref a_least)
  a_first_letters : Addr
  d_first_letters : FuncData
  F_first_letters : Fun K "first_letters" "first_letters" s_first_letters a_first_letters d_first_letters
  b_first_letters : Binds K d_first_letters ["bars", "row"] []
  m_first_letters : mg "first_letters" = some (.ref a_first_letters)
  a_without : Addr
  d_without : FuncData
  F_without : Fun K "without" "without" s_without a_without d_without
  b_without : Binds K d_without ["row", "place"] []
  m_without : mg "without" = some (.ref a_without)
  a_least_of : Addr
  d_least_of : FuncData
  F_least_of : Fun K "least_of" "least_of" s_least_of a_least_of d_least_of
  b_least_of : Binds K d_least_of ["bars", "row"] []
  m_least_of : mg "least_of" = some (.ref a_least_of)
  a_check_counts : Addr
  d_check_counts : FuncData
  F_check_counts : Fun K "check_counts" "check_counts" s_check_counts a_check_counts d_check_counts
  b_check_counts : Binds K d_check_counts ["trade", "counts"] []
  m_check_counts : mg "check_counts" = some (.ref a_check_counts)
  a_how_many_with : Addr
  d_how_many_with : FuncData
  F_how_many_with : Fun K "how_many_with" "how_many_with" s_how_many_with a_how_many_with d_how_many_with
  b_how_many_with : Binds K d_how_many_with ["trade", "counts"] []
  m_how_many_with : mg "how_many_with" = some (.ref a_how_many_with)
  a_choices_up_to : Addr
  d_choices_up_to : FuncData
  F_choices_up_to : Fun K "choices_up_to" "choices_up_to" s_choices_up_to a_choices_up_to d_choices_up_to
  b_choices_up_to : Binds K d_choices_up_to ["counts"] []
  m_choices_up_to : mg "choices_up_to" = some (.ref a_choices_up_to)
  a_groups_within : Addr
  d_groups_within : FuncData
  F_groups_within : Fun K "groups_within" "groups_within" s_groups_within a_groups_within d_groups_within
  b_groups_within : Binds K d_groups_within ["trade", "counts"] []
  m_groups_within : mg "groups_within" = some (.ref a_groups_within)
  a_bits_of : Addr
  d_bits_of : FuncData
  F_bits_of : Fun K "bits_of" "bits_of" s_bits_of a_bits_of d_bits_of
  b_bits_of : Binds K d_bits_of ["group"] []
  m_bits_of : mg "bits_of" = some (.ref a_bits_of)
  a_far_back : Addr
  d_far_back : FuncData
  F_far_back : Fun K "far_back" "far_back" s_far_back a_far_back d_far_back
  b_far_back : Binds K d_far_back ["counts", "group"] []
  m_far_back : mg "far_back" = some (.ref a_far_back)
  a_least_with : Addr
  d_least_with : FuncData
  F_least_with : Fun K "least_with" "least_with" s_least_with a_least_with d_least_with
  b_least_with : Binds K d_least_with ["trade", "counts"] []
  m_least_with : mg "least_with" = some (.ref a_least_with)
  a__law_mix : Addr
  d__law_mix : FuncData
  F__law_mix : Fun K "_law_mix" "_law_mix" s__law_mix a__law_mix d__law_mix
  b__law_mix : Binds K d__law_mix ["_law_script", "_law_seed"] []
  m__law_mix : mg "_law_mix" = some (.ref a__law_mix)
  a__law_next : Addr
  d__law_next : FuncData
  F__law_next : Fun K "_law_next" "_law_next" s__law_next a__law_next d__law_next
  b__law_next : Binds K d__law_next ["_law_h", "_law_bound"] []
  m__law_next : mg "_law_next" = some (.ref a__law_next)
  a__law_pairs : Addr
  d__law_pairs : FuncData
  F__law_pairs : Fun K "_law_pairs" "_law_pairs" s__law_pairs a__law_pairs d__law_pairs
  b__law_pairs : Binds K d__law_pairs ["_law_h", "_law_letters"] []
  m__law_pairs : mg "_law_pairs" = some (.ref a__law_pairs)
  a__law_may : Addr
  d__law_may : FuncData
  F__law_may : Fun K "_law_may" "_law_may" s__law_may a__law_may d__law_may
  b__law_may : Binds K d__law_may ["_law_pairs_here", "_law_a", "_law_b"] []
  m__law_may : mg "_law_may" = some (.ref a__law_may)
  a__law_rows : Addr
  d__law_rows : FuncData
  F__law_rows : Fun K "_law_rows" "_law_rows" s__law_rows a__law_rows d__law_rows
  b__law_rows : Binds K d__law_rows ["_law_counts"] []
  m__law_rows : mg "_law_rows" = some (.ref a__law_rows)
  a__law_all_counts : Addr
  d__law_all_counts : FuncData
  F__law_all_counts : Fun K "_law_all_counts" "_law_all_counts" s__law_all_counts a__law_all_counts d__law_all_counts
  b__law_all_counts : Binds K d__law_all_counts ["_law_letters", "_law_length"] []
  m__law_all_counts : mg "_law_all_counts" = some (.ref a__law_all_counts)
  a__law_many : Addr
  d__law_many : FuncData
  F__law_many : Fun K "_law_many" "_law_many" s__law_many a__law_many d__law_many
  b__law_many : Binds K d__law_many ["_law_pairs_here", "_law_counts"] []
  m__law_many : mg "_law_many" = some (.ref a__law_many)
  a__law_far : Addr
  d__law_far : FuncData
  F__law_far : Fun K "_law_far" "_law_far" s__law_far a__law_far d__law_far
  b__law_far : Binds K d__law_far ["_law_h"] []
  m__law_far : mg "_law_far" = some (.ref a__law_far)
  a_law : Addr
  d_law : FuncData
  F_law : Fun K "law" "law" s_law a_law d_law
  b_law : Binds K d_law ["_law_script"] []
  m_law : mg "law" = some (.ref a_law)
  C_Trade : Addr
  m_Trade : mg "Trade" = some (.ref C_Trade)
  n_all : mg "all" = none
  n_bool : mg "bool" = none
  n_enumerate : mg "enumerate" = none
  n_int : mg "int" = none
  n_isinstance : mg "isinstance" = none
  n_len : mg "len" = none
  n_list : mg "list" = none
  n_max : mg "max" = none
  n_min : mg "min" = none
  n_range : mg "range" = none
  n_set : mg "set" = none
  n_sorted : mg "sorted" = none
  n_sum : mg "sum" = none
  n_tuple : mg "tuple" = none
  t_MOST_LETTERS : Tok
  c_MOST_LETTERS : mg "MOST_LETTERS" = some (.int 6 t_MOST_LETTERS)
  t_MOST_LENGTH : Tok
  c_MOST_LENGTH : mg "MOST_LENGTH" = some (.int 500 t_MOST_LENGTH)
  t_MOST_IN_ROW : Tok
  c_MOST_IN_ROW : mg "MOST_IN_ROW" = some (.int 20 t_MOST_IN_ROW)
  t_MOST_OF_ONE : Tok
  c_MOST_OF_ONE : mg "MOST_OF_ONE" = some (.int 12 t_MOST_OF_ONE)
  t_MOST_TOGETHER : Tok
  c_MOST_TOGETHER : mg "MOST_TOGETHER" = some (.int 40 t_MOST_TOGETHER)
  cl : Cls K C_Trade
  nl : NoAttr K C_Trade "_letters"
  np : NoAttr K C_Trade "_pairs"
  mk_Trade : Mk K C_Trade a_Trade___init__
  pr_l : Addr
  pr_p : Addr
  p_letters : PropOf K C_Trade "letters" pr_l a_Trade_letters
  p_pairs : PropOf K C_Trade "pairs" pr_p a_Trade_pairs
  ic : InsK K C_Trade
  eqf : PySem.W.findIn K (.ref C_Trade) "__eq__" = some (some (.ref a_Trade___eq__))
  eqi : PySem.W.isFn K (.ref a_Trade___eq__) = true
  nf : PySem.W.notFirst K C_Trade (.type "tuple") = true
local macro_rules
  | `(tactic| walk_at "sz") => `(tactic| first
    | omega
    | decide
    | (simp; omega)
    | (simp [iL, row, pairsD]; omega))
  | `(tactic| walk_at "ea") => `(tactic| first
    | (with_reducible exact ea_nil)
    | ((with_reducible apply ea_consL); (focus (walk_at "ev")); (focus (walk_at "ea")))
    | ((with_reducible apply ea_consS); (focus (walk_at "ev")); (focus (walk_at "ea")))
    | ((with_reducible apply ea_cons); (focus (walk_at "ev")); (focus (walk_at "ea")))
    | ((with_reducible apply ea_consN); (focus (walk_at "en")); (focus (walk_at "ea"))))
  | `(tactic| walk_at "ed") => `(tactic| first
    | (with_reducible exact ed_nil)
    | ((with_reducible apply ed_cons); (focus (walk_at "ev")); (focus (walk_at "ed"))))
  | `(tactic| walk_at "en") => `(tactic| first
    | ((with_reducible apply en_lst); (focus (walk_at "ed")); (focus (simp)))
    | ((with_reducible apply en_listT); (focus (walk_at "ev")))
    | ((with_reducible apply en_addL); (focus (walk_at "ev")); (focus (walk_at "en")); (focus (walk_at "sz")))
    | ((with_reducible apply en_addN); (focus (walk_at "en")); (focus (walk_at "en")); (focus (walk_at "sz")))
    | ((with_reducible apply en_slL); (focus (walk_at "ev")); (focus (walk_at "eo")); (focus (walk_at "eo"))))
  | `(tactic| walk_at "eo") => `(tactic| first
    | (with_reducible exact eo_none)
    | ((with_reducible apply eo_some); (focus (walk_at "ev"))))
  | `(tactic| walk_at "et") => `(tactic| first
    | (with_reducible exact et_yes)
    | ((with_reducible apply et_test); (focus (walk_at "ev")))
    | ((with_reducible apply et_B); (focus (walk_at "ev")))
    | ((with_reducible apply et_truB); (focus (walk_at "ev")))
    | ((with_reducible apply et_truT); (focus (walk_at "ev")))
    | ((with_reducible apply et_not); (focus (walk_at "et")))
    | ((with_reducible apply et_and); (focus (walk_at "et")); (focus (intro _; walk_at "et")))
    | ((with_reducible apply et_or); (focus (walk_at "et")); (focus (intro _; walk_at "et"))))
  | `(tactic| walk_at "var") => `(tactic| first
    | ((with_reducible apply ev_varD); (focus (assumption)); (focus (rfl)))
    | ((with_reducible apply ev_varL); (focus (assumption)); (focus (rfl)))
    | ((with_reducible apply ev_varS); (focus (assumption)); (focus (rfl)))
    | ((with_reducible apply ev_varT); (focus (assumption)); (focus (rfl)))
    | ((with_reducible apply ev_varH); (focus (assumption)); (focus (rfl)))
    | ((with_reducible apply ev_varZ); (focus (assumption)); (focus (rfl))))
  | `(tactic| walk_at "ev") => `(tactic| first
    | walk_at "var"
    | (with_reducible exact ev_int)
    | (with_reducible exact ev_bl)
    | (with_reducible exact ev_str)
    | (with_reducible exact ev_non)
    | ((with_reducible apply ev_letters); (focus (walk_at "ev")))
    | ((with_reducible apply ev_pairs); (focus (walk_at "ev")))
    | ((with_reducible apply ev_addI); (focus (walk_at "ev")); (focus (walk_at "ev")))
    | ((with_reducible apply ev_addT); (focus (walk_at "ev")); (focus (walk_at "ev")); (focus (walk_at "sz")))
    | ((with_reducible apply ev_i0); (focus (walk_at "ev")); (focus (walk_at "ev")); (focus (first | exact fun _ => .int _ | exact fun _ => .bl _)))
    | ((with_reducible apply ev_iC); (focus (walk_at "ev")); (focus (walk_at "ev")); (focus (first | assumption | walk_at "cond")); (focus (exact fun _ => .int _)))
    | ((with_reducible apply ev_chain); (focus (walk_at "ev")); (focus (walk_at "ev")); (focus (walk_at "ev")))
    | ((with_reducible apply ev_eqI); (focus (walk_at "ev")); (focus (walk_at "ev")))
    | ((with_reducible apply ev_neI); (focus (walk_at "ev")); (focus (walk_at "ev")))
    | ((with_reducible apply ev_eqR); (focus (walk_at "ev")); (focus (walk_at "ev")))
    | ((with_reducible apply ev_neR); (focus (walk_at "ev")); (focus (walk_at "ev")))
    | ((with_reducible apply ev_isN); (focus (walk_at "ev")))
    | ((with_reducible apply ev_notN); (focus (walk_at "ev")))
    | ((with_reducible apply ev_in2); (focus (walk_at "ev")); (focus (walk_at "ev")); (focus (walk_at "ev")))
    | ((with_reducible apply ev_inP); (focus (walk_at "ev")); (focus (walk_at "ev")))
    | ((with_reducible apply ev_tup); (focus (walk_at "ed")); (focus (simp)))
    | ((with_reducible apply ev_lenT); (focus (walk_at "ev")))
    | ((with_reducible apply ev_lenL); (focus (walk_at "ev")))
    | ((with_reducible apply ev_lenS); (focus (walk_at "ev")))
    | ((with_reducible apply ev_lenN); (focus (walk_at "en")))
    | ((with_reducible apply ev_max2); (focus (walk_at "ev")); (focus (walk_at "ev")))
    | ((with_reducible apply ev_min2); (focus (walk_at "ev")); (focus (walk_at "ev")))
    | ((with_reducible apply ev_int1); (focus (walk_at "ev")))
    | ((with_reducible apply ev_tupleL); (focus (walk_at "ev")))
    | ((with_reducible apply ev_tupleN); (focus (walk_at "en")))
    | ((with_reducible apply ev_countT); (focus (walk_at "ev")); (focus (walk_at "ev")))
    | ((with_reducible apply ev_andV); (focus (walk_at "ev")); (focus (intro _; walk_at "ev")))
    | ((with_reducible apply ev_orV); (focus (walk_at "ev")); (focus (intro _; walk_at "ev")))
    | ((with_reducible apply ev_notV); (focus (walk_at "ev"))))
section
variable {P : Program} {w : World} {K : PySem.W.Frag} {mg : Str → Option Value} {base : Heap}
theorem _root_.L2.Room.units65 {k : Nat} {A : Around} (r : Room k A) : A.units + 65 < cLine := by have := r.un; omega
def isWhole : PyData → Int → Int → Bool
  | .int k, lo, hi => decide (lo ≤ k) && decide (k ≤ hi)
  | _, _, _ => false
abbrev A_is_whole (as : List Ag) (d : PyData) : Prop := ∃ (k lo hi : Int), as = [.c (.d (.int k)), .c (.d (.int lo)), .c (.d (.int hi))] ∧ d = .bool (decide (lo ≤ k) && decide (k ≤ hi))
theorem ok_is_whole (E : Nv K mg) : FnOk P w K mg base CX0 4 E.a_is_whole E.d_is_whole ["value", "low", "high"] (spC K E.C_Trade A_is_whole) := by
  refine E.F_is_whole.ok sc_is_whole (fun vs H Q _ h => ?_) (fun cdv A outer s H vs Q _ hr h => ?_)
  · obtain ⟨as, d, ha, ⟨_, _, _, rfl, _⟩, _⟩ := h
    exact ha.length
  · obtain ⟨as, d, ha, ⟨k, lo, hi, rfl, rfl⟩, q⟩ := h
    obtain ⟨v1, v2, v3, rfl, a1, a2, a3⟩ := ha.three
    refine ⟨_, (pss_cons (ps_if (PW.pt (pw_or (pt_truK K (pe_callB (call_isiK K) (by rfl) E.n_isinstance (by decide +kernel) (pa_cons (pv 0) (pa_cons (pe_bltn (v := .ty "bool") (by rfl) E.n_bool (by decide +kernel) rfl) pa_nil))) (fun _ => rfl)) (pw_or1 (pt_not (pt_truK K (pe_callB (call_isiK K) (by rfl) E.n_isinstance (by decide +kernel) (pa_cons (pv 0) (pa_cons (pe_bltn (v := .ty "int") (by rfl) E.n_int (by decide +kernel) rfl) pa_nil))) (fun _ => rfl)))))) (pss_one (ps_ret pe_bl)) pss_nil)
      (pss_one (ps_ret (pe_chain op_le op_le (pv 1) (pv 0) (pv 2))))), ?_⟩
    have w : Wd K E.C_Trade [] [] H H _ [.d (.int k), .d (.int lo), .d (.int hi)] := Wd.start3 (N := N_is_whole) a1 a2 a3
    refine s_when w (b := false) (et_cast (et_or (et_truB (ev_isiI (b := false) (ev_var w rfl) (by decide +kernel))) (fun _ => et_not (et_truB (ev_isiI (b := true) (ev_var w rfl) (by decide +kernel))))) rfl) (fun z => by cases z) (fun _ H1 w1 => ?_)
    exact s_retQ w1 q (by walk_at "ev")
abbrev A_is_letter (as : List Ag) (d : PyData) : Prop := ∃ (n k : Int), as = [.c (.d (.int n)), .c (.d (.int k))] ∧ d = .bool (decide (0 ≤ k) && decide (k ≤ n - 1))
theorem ok_Trade_letters (E : Nv K mg) : FnOk P w K mg base CX0 1 E.a_Trade_letters E.d_Trade_letters ["self"] (getSp E.C_Trade "_letters") := by
  obtain ⟨oc, od, kV, doc, pm, an, cdv, ct, osl, e, lk, hcd⟩ := E.F_Trade_letters.ex
  rw [e] at lk ⊢
  exact fn_getter lk hcd sc_Trade_letters rfl rfl E.cl E.nl
theorem ok_Trade_pairs (E : Nv K mg) : FnOk P w K mg base CX0 1 E.a_Trade_pairs E.d_Trade_pairs ["self"] (getSp E.C_Trade "_pairs") := by
  obtain ⟨oc, od, kV, doc, pm, an, cdv, ct, osl, e, lk, hcd⟩ := E.F_Trade_pairs.ex
  rw [e] at lk ⊢
  exact fn_getter lk hcd sc_Trade_pairs rfl rfl E.cl E.np
theorem ok_is_letter (E : Nv K mg) : FnOk P w K mg base CX0 8 E.a_is_letter E.d_is_letter ["letters", "value"] (spC K E.C_Trade A_is_letter) := by
  refine E.F_is_letter.ok sc_is_letter (fun vs H Q _ h => ?_) (fun cdv A outer s H vs Q _ hr h => ?_)
  · obtain ⟨as, d, ha, ⟨_, _, rfl, _⟩, _⟩ := h
    exact ha.length
  · obtain ⟨as, d, ha, ⟨n, k, rfl, rfl⟩, q⟩ := h
    obtain ⟨v1, v2, rfl, a1, a2⟩ := ha.two
    refine ⟨_, (pss_one (ps_ret (pe_call (ok_is_whole E) (hr.mono (by first | decide | omega)) (by rfl) E.m_is_whole E.F_is_whole.kp E.b_is_whole .nil pass0 (pa_cons (pv 1) (pa_cons pe_int (pa_cons (pe_op op_sub (pv 0) pe_int) pa_nil)))))), ?_⟩
    have w : Wd K E.C_Trade [] [] H H _ [.d (.int n), .d (.int k)] := Wd.start2 (N := N_is_letter) a1 a2
    exact s_retQ w q (ev_call (by walk_at "ea") ⟨_, _, _, rfl, rfl⟩)
abbrev may (ps : List (Int × Int)) (a b : Int) : Bool := decide ((min a b, max a b) ∈ ps)
abbrev A_may_change (as : List Ag) (d : PyData) : Prop := ∃ (n : Int) (ps : List (Int × Int)) (a b : Int), as = [.c (.t n ps), .c (.d (.int a)), .c (.d (.int b))] ∧ d = .bool (may ps a b)
theorem ok_may_change (E : Nv K mg) : FnOk P w K mg base CX0 8 E.a_may_change E.d_may_change ["trade", "one", "other"] (spC K E.C_Trade A_may_change) := by
  refine E.F_may_change.ok sc_may_change (fun vs H Q _ h => ?_) (fun cdv A outer s H vs Q _ hr h => ?_)
  · obtain ⟨as, d, ha, ⟨_, _, _, _, rfl, _⟩, _⟩ := h
    exact ha.length
  · obtain ⟨as, d, ha, ⟨n, ps, a, b, rfl, rfl⟩, q⟩ := h
    obtain ⟨v1, v2, v3, rfl, a1, a2, a3⟩ := ha.three
    refine ⟨_, (pss_one (ps_ret (pe_cmpR (op_inTK K hr.units65) (pe_tupF (pa_cons (pe_callB (call_min2' rfl) (by rfl) E.n_min (by decide +kernel) (pa_cons (pv 1) (pa_cons (pv 2) pa_nil))) (pa_cons (pe_callB (call_max2' rfl) (by rfl) E.n_max (by decide +kernel) (pa_cons (pv 1) (pa_cons (pv 2) pa_nil))) pa_nil))) (pe_prop (pv 0) E.cl E.p_pairs (ok_Trade_pairs E) (hr.mono (by first | decide | omega)) E.b_Trade_pairs .nil pass0 rfl) (by with_unfolding_all rfl)))), ?_⟩
    have w : Wd K E.C_Trade [] [] H H _ [.t n ps, .d (.int a), .d (.int b)] := Wd.start3 (N := N_may_change) a1 a2 a3
    exact s_retQ w q (by walk_at "ev")
def onlyL (l : List Int) (a b : Int) : List Int := l.filter fun x => decide (x = a ∨ x = b)
end
end K1
set_option maxRecDepth 10000000
namespace K1
open PySem PySem.Spec PyProof.Rows L2 Pt
local macro_rules
  | `(tactic| walk_at "sz") => `(tactic| first
    | omega
    | decide
    | (simp; omega)
    | (simp [iL, row, pairsD]; omega))
  | `(tactic| walk_at "ea") => `(tactic| first
    | (with_reducible exact ea_nil)
    | ((with_reducible apply ea_consL); (focus (walk_at "ev")); (focus (walk_at "ea")))
    | ((with_reducible apply ea_consS); (focus (walk_at "ev")); (focus (walk_at "ea")))
    | ((with_reducible apply ea_cons); (focus (walk_at "ev")); (focus (walk_at "ea")))
    | ((with_reducible apply ea_consN); (focus (walk_at "en")); (focus (walk_at "ea"))))
  | `(tactic| walk_at "ed") => `(tactic| first
    | (with_reducible exact ed_nil)
    | ((with_reducible apply ed_cons); (focus (walk_at "ev")); (focus (walk_at "ed"))))
  | `(tactic| walk_at "en") => `(tactic| first
    | ((with_reducible apply en_lst); (focus (walk_at "ed")); (focus (simp)))
    | ((with_reducible apply en_listT); (focus (walk_at "ev")))
    | ((with_reducible apply en_addL); (focus (walk_at "ev")); (focus (walk_at "en")); (focus (walk_at "sz")))
    | ((with_reducible apply en_addN); (focus (walk_at "en")); (focus (walk_at "en")); (focus (walk_at "sz")))
    | ((with_reducible apply en_slL); (focus (walk_at "ev")); (focus (walk_at "eo")); (focus (walk_at "eo"))))
  | `(tactic| walk_at "eo") => `(tactic| first
    | (with_reducible exact eo_none)
    | ((with_reducible apply eo_some); (focus (walk_at "ev"))))
  | `(tactic| walk_at "et") => `(tactic| first
    | (with_reducible exact et_yes)
    | ((with_reducible apply et_test); (focus (walk_at "ev")))
    | ((with_reducible apply et_B); (focus (walk_at "ev")))
    | ((with_reducible apply et_truB); (focus (walk_at "ev")))
    | ((with_reducible apply et_truT); (focus (walk_at "ev")))
    | ((with_reducible apply et_not); (focus (walk_at "et")))
    | ((with_reducible apply et_and); (focus (walk_at "et")); (focus (intro _; walk_at "et")))
    | ((with_reducible apply et_or); (focus (walk_at "et")); (focus (intro _; walk_at "et"))))
  | `(tactic| walk_at "var") => `(tactic| first
    | ((with_reducible apply ev_varD); (focus (assumption)); (focus (rfl)))
    | ((with_reducible apply ev_varL); (focus (assumption)); (focus (rfl)))
    | ((with_reducible apply ev_varS); (focus (assumption)); (focus (rfl)))
    | ((with_reducible apply ev_varT); (focus (assumption)); (focus (rfl)))
    | ((with_reducible apply ev_varH); (focus (assumption)); (focus (rfl)))
    | ((with_reducible apply ev_varZ); (focus (assumption)); (focus (rfl))))
  | `(tactic| walk_at "ev") => `(tactic| first
    | walk_at "var"
    | (with_reducible exact ev_int)
    | (with_reducible exact ev_bl)
    | (with_reducible exact ev_str)
    | (with_reducible exact ev_non)
    | ((with_reducible apply ev_letters); (focus (walk_at "ev")))
    | ((with_reducible apply ev_pairs); (focus (walk_at "ev")))
    | ((with_reducible apply ev_addI); (focus (walk_at "ev")); (focus (walk_at "ev")))
    | ((with_reducible apply ev_addT); (focus (walk_at "ev")); (focus (walk_at "ev")); (focus (walk_at "sz")))
    | ((with_reducible apply ev_i0); (focus (walk_at "ev")); (focus (walk_at "ev")); (focus (first | exact fun _ => .int _ | exact fun _ => .bl _)))
    | ((with_reducible apply ev_iC); (focus (walk_at "ev")); (focus (walk_at "ev")); (focus (first | assumption | walk_at "cond")); (focus (exact fun _ => .int _)))
    | ((with_reducible apply ev_chain); (focus (walk_at "ev")); (focus (walk_at "ev")); (focus (walk_at "ev")))
    | ((with_reducible apply ev_eqI); (focus (walk_at "ev")); (focus (walk_at "ev")))
    | ((with_reducible apply ev_neI); (focus (walk_at "ev")); (focus (walk_at "ev")))
    | ((with_reducible apply ev_eqR); (focus (walk_at "ev")); (focus (walk_at "ev")))
    | ((with_reducible apply ev_neR); (focus (walk_at "ev")); (focus (walk_at "ev")))
    | ((with_reducible apply ev_isN); (focus (walk_at "ev")))
    | ((with_reducible apply ev_notN); (focus (walk_at "ev")))
    | ((with_reducible apply ev_in2); (focus (walk_at "ev")); (focus (walk_at "ev")); (focus (walk_at "ev")))
    | ((with_reducible apply ev_inP); (focus (walk_at "ev")); (focus (walk_at "ev")))
    | ((with_reducible apply ev_tup); (focus (walk_at "ed")); (focus (simp)))
    | ((with_reducible apply ev_lenT); (focus (walk_at "ev")))
    | ((with_reducible apply ev_lenL); (focus (walk_at "ev")))
    | ((with_reducible apply ev_lenS); (focus (walk_at "ev")))
    | ((with_reducible apply ev_lenN); (focus (walk_at "en")))
    | ((with_reducible apply ev_max2); (focus (walk_at "ev")); (focus (walk_at "ev")))
    | ((with_reducible apply ev_min2); (focus (walk_at "ev")); (focus (walk_at "ev")))
    | ((with_reducible apply ev_int1); (focus (walk_at "ev")))
    | ((with_reducible apply ev_tupleL); (focus (walk_at "ev")))
    | ((with_reducible apply ev_tupleN); (focus (walk_at "en")))
    | ((with_reducible apply ev_countT); (focus (walk_at "ev")); (focus (walk_at "ev")))
    | ((with_reducible apply ev_andV); (focus (walk_at "ev")); (focus (intro _; walk_at "ev")))
    | ((with_reducible apply ev_orV); (focus (walk_at "ev")); (focus (intro _; walk_at "ev")))
    | ((with_reducible apply ev_notV); (focus (walk_at "ev"))))
section
variable {P : Program} {w : World} {K : PySem.W.Frag} {mg : Str → Option Value} {base : Heap}
end
end K1
set_option maxRecDepth 10000000
namespace K1
open PySem PySem.Spec PyProof.Rows L2 Pt
local macro_rules
  | `(tactic| walk_at "sz") => `(tactic| first
    | omega
    | decide
    | (simp; omega)
    | (simp [iL, row, pairsD]; omega))
  | `(tactic| walk_at "ea") => `(tactic| first
    | (with_reducible exact ea_nil)
    | ((with_reducible apply ea_consL); (focus (walk_at "ev")); (focus (walk_at "ea")))
    | ((with_reducible apply ea_consS); (focus (walk_at "ev")); (focus (walk_at "ea")))
    | ((with_reducible apply ea_cons); (focus (walk_at "ev")); (focus (walk_at "ea")))
    | ((with_reducible apply ea_consN); (focus (walk_at "en")); (focus (walk_at "ea"))))
  | `(tactic| walk_at "ed") => `(tactic| first
    | (with_reducible exact ed_nil)
    | ((with_reducible apply ed_cons); (focus (walk_at "ev")); (focus (walk_at "ed"))))
  | `(tactic| walk_at "en") => `(tactic| first
    | ((with_reducible apply en_lst); (focus (walk_at "ed")); (focus (simp)))
    | ((with_reducible apply en_listT); (focus (walk_at "ev")))
    | ((with_reducible apply en_addL); (focus (walk_at "ev")); (focus (walk_at "en")); (focus (walk_at "sz")))
    | ((with_reducible apply en_addN); (focus (walk_at "en")); (focus (walk_at "en")); (focus (walk_at "sz")))
    | ((with_reducible apply en_slL); (focus (walk_at "ev")); (focus (walk_at "eo")); (focus (walk_at "eo"))))
  | `(tactic| walk_at "eo") => `(tactic| first
    | (with_reducible exact eo_none)
    | ((with_reducible apply eo_some); (focus (walk_at "ev"))))
  | `(tactic| walk_at "et") => `(tactic| first
    | (with_reducible exact et_yes)
    | ((with_reducible apply et_test); (focus (walk_at "ev")))
    | ((with_reducible apply et_B); (focus (walk_at "ev")))
    | ((with_reducible apply et_truB); (focus (walk_at "ev")))
    | ((with_reducible apply et_truT); (focus (walk_at "ev")))
    | ((with_reducible apply et_not); (focus (walk_at "et")))
    | ((with_reducible apply et_and); (focus (walk_at "et")); (focus (intro _; walk_at "et")))
    | ((with_reducible apply et_or); (focus (walk_at "et")); (focus (intro _; walk_at "et"))))
  | `(tactic| walk_at "var") => `(tactic| first
    | ((with_reducible apply ev_varD); (focus (assumption)); (focus (rfl)))
    | ((with_reducible apply ev_varL); (focus (assumption)); (focus (rfl)))
    | ((with_reducible apply ev_varS); (focus (assumption)); (focus (rfl)))
    | ((with_reducible apply ev_varT); (focus (assumption)); (focus (rfl)))
    | ((with_reducible apply ev_varH); (focus (assumption)); (focus (rfl)))
    | ((with_reducible apply ev_varZ); (focus (assumption)); (focus (rfl))))
  | `(tactic| walk_at "ev") => `(tactic| first
    | walk_at "var"
    | (with_reducible exact ev_int)
    | (with_reducible exact ev_bl)
    | (with_reducible exact ev_str)
    | (with_reducible exact ev_non)
    | ((with_reducible apply ev_letters); (focus (walk_at "ev")))
    | ((with_reducible apply ev_pairs); (focus (walk_at "ev")))
    | ((with_reducible apply ev_addI); (focus (walk_at "ev")); (focus (walk_at "ev")))
    | ((with_reducible apply ev_addT); (focus (walk_at "ev")); (focus (walk_at "ev")); (focus (walk_at "sz")))
    | ((with_reducible apply ev_i0); (focus (walk_at "ev")); (focus (walk_at "ev")); (focus (first | exact fun _ => .int _ | exact fun _ => .bl _)))
    | ((with_reducible apply ev_iC); (focus (walk_at "ev")); (focus (walk_at "ev")); (focus (first | assumption | walk_at "cond")); (focus (exact fun _ => .int _)))
    | ((with_reducible apply ev_chain); (focus (walk_at "ev")); (focus (walk_at "ev")); (focus (walk_at "ev")))
    | ((with_reducible apply ev_eqI); (focus (walk_at "ev")); (focus (walk_at "ev")))
    | ((with_reducible apply ev_neI); (focus (walk_at "ev")); (focus (walk_at "ev")))
    | ((with_reducible apply ev_eqR); (focus (walk_at "ev")); (focus (walk_at "ev")))
    | ((with_reducible apply ev_neR); (focus (walk_at "ev")); (focus (walk_at "ev")))
    | ((with_reducible apply ev_isN); (focus (walk_at "ev")))
    | ((with_reducible apply ev_notN); (focus (walk_at "ev")))
    | ((with_reducible apply ev_in2); (focus (walk_at "ev")); (focus (walk_at "ev")); (focus (walk_at "ev")))
    | ((with_reducible apply ev_inP); (focus (walk_at "ev")); (focus (walk_at "ev")))
    | ((with_reducible apply ev_tup); (focus (walk_at "ed")); (focus (simp)))
    | ((with_reducible apply ev_lenT); (focus (walk_at "ev")))
    | ((with_reducible apply ev_lenL); (focus (walk_at "ev")))
    | ((with_reducible apply ev_lenS); (focus (walk_at "ev")))
    | ((with_reducible apply ev_lenN); (focus (walk_at "en")))
    | ((with_reducible apply ev_max2); (focus (walk_at "ev")); (focus (walk_at "ev")))
    | ((with_reducible apply ev_min2); (focus (walk_at "ev")); (focus (walk_at "ev")))
    | ((with_reducible apply ev_int1); (focus (walk_at "ev")))
    | ((with_reducible apply ev_tupleL); (focus (walk_at "ev")))
    | ((with_reducible apply ev_tupleN); (focus (walk_at "en")))
    | ((with_reducible apply ev_countT); (focus (walk_at "ev")); (focus (walk_at "ev")))
    | ((with_reducible apply ev_andV); (focus (walk_at "ev")); (focus (intro _; walk_at "ev")))
    | ((with_reducible apply ev_orV); (focus (walk_at "ev")); (focus (intro _; walk_at "ev")))
    | ((with_reducible apply ev_notV); (focus (walk_at "ev"))))
section
variable {P : Program} {w : World} {K : PySem.W.Frag} {mg : Str → Option Value} {base : Heap}
abbrev A_check_trade (as : List Ag) (d : PyData) : Prop := ∃ (n : Int) (ps : List (Int × Int)), as = [.c (.t n ps)] ∧ d = .none
theorem ok_check_trade (E : Nv K mg) : FnOk P w K mg base CX0 4 E.a_check_trade E.d_check_trade ["trade"] (spC K E.C_Trade A_check_trade) := by
  refine E.F_check_trade.ok sc_check_trade (fun vs H Q _ h => ?_) (fun cdv A outer s H vs Q _ hr h => ?_)
  · obtain ⟨as, d, ha, ⟨_, _, rfl, _⟩, _⟩ := h
    exact ha.length
  · obtain ⟨as, d, ha, ⟨n, ps, rfl, rfl⟩, q⟩ := h
    obtain ⟨v1, rfl, a1⟩ := ha.one
    refine ⟨_, (pss_one (ps_if (pt_not (pt_truK K (pe_callB (call_isiK K) (by rfl) E.n_isinstance (by decide +kernel) (pa_cons (pv 0) (pa_cons (pe_glob (v := .ref E.C_Trade) (by rfl) E.m_Trade rfl) pa_nil))) (fun _ => rfl))) (pss_one ps_never) pss_nil)), ?_⟩
    have w : Wd K E.C_Trade [] [] H H _ [.t n ps] := Wd.start1 (N := N_check_trade) a1
    refine s_if w (b := false) (et_cast (et_not (et_truB (ev_isiTr E.ic (ev_var w rfl)))) rfl) (fun z => by cases z) (fun _ H1 w1 => ?_)
    exact s_next (q .non H1 w1.fr0 .non)
def rowOk (n : Int) (l : List Int) : Prop := l.length ≤ 20 ∧ ∀ x ∈ l, 0 ≤ x ∧ x < n
def inR (n a : Int) : Bool := decide (0 ≤ a) && decide (a ≤ n - 1)
def rowB (n : Int) (l : List Int) : Bool := !decide (20 < (l.length : Int)) && l.all (inR n)
theorem rowB_of {n : Int} {l : List Int} (h : rowOk n l) : rowB n l = true := by
  obtain ⟨hl, hx⟩ := h
  have z : l.all (inR n) = true := List.all_eq_true.mpr fun x m => by
    have := hx x m
    simp [inR]
    omega
  unfold rowB
  rw [z, decide_eq_false (by omega)]
  rfl
abbrev A_is_row (as : List Ag) (d : PyData) : Prop := ∃ (n : Int) (l : List Int), l.length < 1000 ∧ as = [.c (.d (.int n)), .c (.d (row l))] ∧ d = .bool (rowB n l)
theorem ok_is_row (E : Nv K mg) : FnOk P w K mg base CX0 10 E.a_is_row E.d_is_row ["letters", "value"] (spC K E.C_Trade A_is_row) := by
  refine E.F_is_row.ok sc_is_row (fun vs H Q _ h => ?_) (fun cdv A outer s H vs Q _ hr h => ?_)
  · obtain ⟨as, d, ha, ⟨_, _, _, rfl, _⟩, _⟩ := h
    exact ha.length
  · obtain ⟨as, d, ha, ⟨n, l, hl, rfl, rfl⟩, q⟩ := h
    obtain ⟨v1, v2, rfl, a1, a2⟩ := ha.two
    refine ⟨_, (pss_cons (ps_if (PW.pt (pw_or (pt_not (pt_truK K (pe_callB (call_isiK K) (by rfl) E.n_isinstance (by decide +kernel) (pa_cons (pv 1) (pa_cons (pe_bltn (v := .ty "tuple") (by rfl) E.n_tuple (by decide +kernel) rfl) pa_nil))) (fun _ => rfl))) (pw_or1 (pt_cmpR (op_gt) (pe_callB (call_lenK K) (by rfl) E.n_len (by decide +kernel) (pa_cons (pv 1) pa_nil)) (pe_glob (v := .int 20) (by rfl) E.c_MOST_IN_ROW ⟨_, rfl⟩) (nomark _))))) (pss_one (ps_ret pe_bl)) pss_nil)
      (pss_one (ps_ret (pe_callB (call_allK K rfl) (by rfl) E.n_all (by decide +kernel) (pa_cons (pe_lc (own := [("letter", 2)]) (g := gName 2) (by rfl) sc_is_row.nd (pi_tupK K (pv 1)) (blkOk_by (own := [("letter", 2)]) (N := N_is_row) (sc := defScope s_is_row) (by decide +kernel)) (fun _ _ _ _ _ => (pg_name (i := 2) sc_is_row.nd rfl (Or.inl rfl))) (fun _ _ _ _ _ => pts_nil) (fun _ _ _ _ _ => (pe_call (ok_is_letter E) (hr.mono (by first | decide | omega)) (by rfl) E.m_is_letter E.F_is_letter.kp E.b_is_letter .nil pass0 (pa_cons (pv 0) (pa_cons (pv 2) pa_nil))))) pa_nil))))), ?_⟩
    have w : Wd K E.C_Trade [] [] H H _ [.d (.int n), .d (row l), .u] := Wd.start2 (N := N_is_row) a1 a2
    refine s_when w (b := decide (20 < (l.length : Int))) (et_cast (et_or (et_not (et_truB (ev_isiT (b := true) (ev_var w rfl) (by decide +kernel)))) (fun _ => et_test (ev_i0 (ev_lenT (ev_var w rfl)) ev_int (fun _ => .bl _)))) (by rw [iL_len]; rfl)) (fun e H1 w1 => ?_) (fun e H1 w1 => ?_)
    · have z : rowB n l = false := by
        unfold rowB
        rw [e]
        rfl
      rw [z] at q
      exact s_retQ w1 q (by walk_at "ev")
    · have z : rowB n l = l.all (inR n) := by
        unfold rowB
        rw [e]
        rfl
      rw [z] at q
      exact s_retQ w1 q (ev_allK (f := inR n) (l := l) (en_lcT (mk := PyData.int) w1 (ev_var w1 rfl) (fun _ => true) _ (by omega) (fun x _ σ1 H1 w1 => et_yes) (fun x _ σ1 H1 w1 _ => ev_call (by walk_at "ea") ⟨_, _, rfl, rfl⟩)))
abbrev A_check_row (as : List Ag) (d : PyData) : Prop := ∃ (n : Int) (ps : List (Int × Int)) (l : List Int), rowOk n l ∧ as = [.c (.t n ps), .c (.d (row l))] ∧ d = .none
theorem ok_check_row (E : Nv K mg) : FnOk P w K mg base CX0 12 E.a_check_row E.d_check_row ["trade", "row"] (spC K E.C_Trade A_check_row) := by
  refine E.F_check_row.ok sc_check_row (fun vs H Q _ h => ?_) (fun cdv A outer s H vs Q _ hr h => ?_)
  · obtain ⟨as, d, ha, ⟨_, _, _, _, rfl, _⟩, _⟩ := h
    exact ha.length
  · obtain ⟨as, d, ha, ⟨n, ps, l, ho, rfl, rfl⟩, q⟩ := h
    obtain ⟨v1, v2, rfl, a1, a2⟩ := ha.two
    refine ⟨_, (pss_one (ps_if (pt_not (pt_truK K (pe_call (ok_is_row E) (hr.mono (by first | decide | omega)) (by rfl) E.m_is_row E.F_is_row.kp E.b_is_row .nil pass0 (pa_cons (pe_prop (pv 0) E.cl E.p_letters (ok_Trade_letters E) (hr.mono (by first | decide | omega)) E.b_Trade_letters .nil pass0 rfl) (pa_cons (pv 1) pa_nil))) (fun _ => rfl))) (pss_one ps_never) pss_nil)), ?_⟩
    have w : Wd K E.C_Trade [] [] H H _ [.t n ps, .d (row l)] := Wd.start2 (N := N_check_row) a1 a2
    refine s_if w (b := false) (et_cast (et_not (et_truB (ev_call (by walk_at "ea") ⟨n, l, Nat.lt_of_le_of_lt ho.1 (by decide), rfl, rfl⟩))) (by rw [rowB_of ho]; rfl)) (fun z => by cases z) (fun _ H1 w1 => ?_)
    exact s_next (q .non H1 w1.fr0 .non)
def leadGo : Nat → List Int → List Int → List Int
  | _, _, [] => []
  | t, r, x :: ms => (List.range (r.idxOf x)).map (fun i : Nat => ((t + r.idxOf x : Nat) : Int) - 1 - i) ++ leadGo (t + 1) (r.erase x) ms
end
end K1
set_option maxRecDepth 10000000
namespace K1
open PySem PySem.Spec PyProof.Rows L2 Pt
local macro_rules
  | `(tactic| walk_at "sz") => `(tactic| first
    | omega
    | decide
    | (simp; omega)
    | (simp [iL, row, pairsD]; omega))
  | `(tactic| walk_at "ea") => `(tactic| first
    | (with_reducible exact ea_nil)
    | ((with_reducible apply ea_consL); (focus (walk_at "ev")); (focus (walk_at "ea")))
    | ((with_reducible apply ea_consS); (focus (walk_at "ev")); (focus (walk_at "ea")))
    | ((with_reducible apply ea_cons); (focus (walk_at "ev")); (focus (walk_at "ea")))
    | ((with_reducible apply ea_consN); (focus (walk_at "en")); (focus (walk_at "ea"))))
  | `(tactic| walk_at "ed") => `(tactic| first
    | (with_reducible exact ed_nil)
    | ((with_reducible apply ed_cons); (focus (walk_at "ev")); (focus (walk_at "ed"))))
  | `(tactic| walk_at "en") => `(tactic| first
    | ((with_reducible apply en_lst); (focus (walk_at "ed")); (focus (simp)))
    | ((with_reducible apply en_listT); (focus (walk_at "ev")))
    | ((with_reducible apply en_addL); (focus (walk_at "ev")); (focus (walk_at "en")); (focus (walk_at "sz")))
    | ((with_reducible apply en_addN); (focus (walk_at "en")); (focus (walk_at "en")); (focus (walk_at "sz")))
    | ((with_reducible apply en_slL); (focus (walk_at "ev")); (focus (walk_at "eo")); (focus (walk_at "eo"))))
  | `(tactic| walk_at "eo") => `(tactic| first
    | (with_reducible exact eo_none)
    | ((with_reducible apply eo_some); (focus (walk_at "ev"))))
  | `(tactic| walk_at "et") => `(tactic| first
    | (with_reducible exact et_yes)
    | ((with_reducible apply et_test); (focus (walk_at "ev")))
    | ((with_reducible apply et_B); (focus (walk_at "ev")))
    | ((with_reducible apply et_truB); (focus (walk_at "ev")))
    | ((with_reducible apply et_truT); (focus (walk_at "ev")))
    | ((with_reducible apply et_not); (focus (walk_at "et")))
    | ((with_reducible apply et_and); (focus (walk_at "et")); (focus (intro _; walk_at "et")))
    | ((with_reducible apply et_or); (focus (walk_at "et")); (focus (intro _; walk_at "et"))))
  | `(tactic| walk_at "var") => `(tactic| first
    | ((with_reducible apply ev_varD); (focus (assumption)); (focus (rfl)))
    | ((with_reducible apply ev_varL); (focus (assumption)); (focus (rfl)))
    | ((with_reducible apply ev_varS); (focus (assumption)); (focus (rfl)))
    | ((with_reducible apply ev_varT); (focus (assumption)); (focus (rfl)))
    | ((with_reducible apply ev_varH); (focus (assumption)); (focus (rfl)))
    | ((with_reducible apply ev_varZ); (focus (assumption)); (focus (rfl))))
  | `(tactic| walk_at "ev") => `(tactic| first
    | walk_at "var"
    | (with_reducible exact ev_int)
    | (with_reducible exact ev_bl)
    | (with_reducible exact ev_str)
    | (with_reducible exact ev_non)
    | ((with_reducible apply ev_letters); (focus (walk_at "ev")))
    | ((with_reducible apply ev_pairs); (focus (walk_at "ev")))
    | ((with_reducible apply ev_addI); (focus (walk_at "ev")); (focus (walk_at "ev")))
    | ((with_reducible apply ev_addT); (focus (walk_at "ev")); (focus (walk_at "ev")); (focus (walk_at "sz")))
    | ((with_reducible apply ev_i0); (focus (walk_at "ev")); (focus (walk_at "ev")); (focus (first | exact fun _ => .int _ | exact fun _ => .bl _)))
    | ((with_reducible apply ev_iC); (focus (walk_at "ev")); (focus (walk_at "ev")); (focus (first | assumption | walk_at "cond")); (focus (exact fun _ => .int _)))
    | ((with_reducible apply ev_chain); (focus (walk_at "ev")); (focus (walk_at "ev")); (focus (walk_at "ev")))
    | ((with_reducible apply ev_eqI); (focus (walk_at "ev")); (focus (walk_at "ev")))
    | ((with_reducible apply ev_neI); (focus (walk_at "ev")); (focus (walk_at "ev")))
    | ((with_reducible apply ev_eqR); (focus (walk_at "ev")); (focus (walk_at "ev")))
    | ((with_reducible apply ev_neR); (focus (walk_at "ev")); (focus (walk_at "ev")))
    | ((with_reducible apply ev_isN); (focus (walk_at "ev")))
    | ((with_reducible apply ev_notN); (focus (walk_at "ev")))
    | ((with_reducible apply ev_in2); (focus (walk_at "ev")); (focus (walk_at "ev")); (focus (walk_at "ev")))
    | ((with_reducible apply ev_inP); (focus (walk_at "ev")); (focus (walk_at "ev")))
    | ((with_reducible apply ev_tup); (focus (walk_at "ed")); (focus (simp)))
    | ((with_reducible apply ev_lenT); (focus (walk_at "ev")))
    | ((with_reducible apply ev_lenL); (focus (walk_at "ev")))
    | ((with_reducible apply ev_lenS); (focus (walk_at "ev")))
    | ((with_reducible apply ev_lenN); (focus (walk_at "en")))
    | ((with_reducible apply ev_max2); (focus (walk_at "ev")); (focus (walk_at "ev")))
    | ((with_reducible apply ev_min2); (focus (walk_at "ev")); (focus (walk_at "ev")))
    | ((with_reducible apply ev_int1); (focus (walk_at "ev")))
    | ((with_reducible apply ev_tupleL); (focus (walk_at "ev")))
    | ((with_reducible apply ev_tupleN); (focus (walk_at "en")))
    | ((with_reducible apply ev_countT); (focus (walk_at "ev")); (focus (walk_at "ev")))
    | ((with_reducible apply ev_andV); (focus (walk_at "ev")); (focus (intro _; walk_at "ev")))
    | ((with_reducible apply ev_orV); (focus (walk_at "ev")); (focus (intro _; walk_at "ev")))
    | ((with_reducible apply ev_notV); (focus (walk_at "ev"))))
section
variable {P : Program} {w : World} {K : PySem.W.Frag} {mg : Str → Option Value} {base : Heap}
abbrev A_is_pair (as : List Ag) (d : PyData) : Prop := ∃ (n a b : Int), as = [.c (.d (.int n)), .c (.d (row [a, b]))] ∧ d = .bool ([a, b].all (inR n) && decide (a < b))
theorem ok_is_pair (E : Nv K mg) : FnOk P w K mg base CX0 12 E.a_is_pair E.d_is_pair ["letters", "value"] (spC K E.C_Trade A_is_pair) := by
  refine E.F_is_pair.ok sc_is_pair (fun vs H Q _ h => ?_) (fun cdv A outer s H vs Q _ hr h => ?_)
  · obtain ⟨as, d, ha, ⟨_, _, _, rfl, _⟩, _⟩ := h
    exact ha.length
  · obtain ⟨as, d, ha, ⟨n, a, b, rfl, rfl⟩, q⟩ := h
    obtain ⟨v1, v2, rfl, a1, a2⟩ := ha.two
    refine ⟨_, (pss_cons (ps_if (PW.pt (pw_or (pt_not (pt_truK K (pe_callB (call_isiK K) (by rfl) E.n_isinstance (by decide +kernel) (pa_cons (pv 1) (pa_cons (pe_bltn (v := .ty "tuple") (by rfl) E.n_tuple (by decide +kernel) rfl) pa_nil))) (fun _ => rfl))) (pw_or1 (pt_cmpR (op_neK K hr.units) (pe_callB (call_lenK K) (by rfl) E.n_len (by decide +kernel) (pa_cons (pv 1) pa_nil)) pe_int (nomark _))))) (pss_one (ps_ret pe_bl)) pss_nil)
      (pss_cons (ps_if (pt_not (pt_truK K (pe_callB (call_allK K rfl) (by rfl) E.n_all (by decide +kernel) (pa_cons (pe_lc (own := [("letter", 2)]) (g := gName 2) (by rfl) sc_is_pair.nd (pi_tupK K (pv 1)) (blkOk_by (own := [("letter", 2)]) (N := N_is_pair) (sc := defScope s_is_pair) (by decide +kernel)) (fun _ _ _ _ _ => (pg_name (i := 2) sc_is_pair.nd rfl (Or.inl rfl))) (fun _ _ _ _ _ => pts_nil) (fun _ _ _ _ _ => (pe_call (ok_is_letter E) (hr.mono (by first | decide | omega)) (by rfl) E.m_is_letter E.F_is_letter.kp E.b_is_letter .nil pass0 (pa_cons (pv 0) (pa_cons (pv 2) pa_nil))))) pa_nil)) (fun _ => rfl))) (pss_one (ps_ret pe_bl)) pss_nil)
      (pss_one (ps_ret (pe_cmpR (op_lt) (pe_ix (ix_K K) (pv 1) pe_int (fun _ _ => rfl)) (pe_ix (ix_K K) (pv 1) pe_int (fun _ _ => rfl)) (nomark _)))))), ?_⟩
    have w : Wd K E.C_Trade [] [] H H _ [.d (.int n), .d (row [a, b]), .u] := Wd.start2 (N := N_is_pair) a1 a2
    refine s_when w (b := false) (et_cast (et_or (et_not (et_truB (ev_isiT (b := true) (ev_var w rfl) (by decide +kernel)))) (fun _ => et_test (ev_neI (ev_lenT (ev_var w rfl)) ev_int))) rfl) (fun z => by cases z) (fun _ H1 w1 => ?_)
    refine s_when w1 (b := !([a, b].all (inR n))) (et_not (et_truB (ev_allK (f := inR n) (l := [a, b]) (en_lcT (mk := PyData.int) w1 (ev_var w1 rfl) (fun _ => true) _ (by simp) (fun x _ σ1 H1 w1 => et_yes) (fun x _ σ1 H1 w1 _ => ev_call (by walk_at "ea") ⟨_, _, rfl, rfl⟩))))) (fun e H2 w2 => ?_) (fun e H2 w2 => ?_)
    · have z : [a, b].all (inR n) = false := by
        revert e
        cases [a, b].all (inR n) <;> intro e
        · rfl
        · cases e
      rw [z, Bool.false_and] at q
      exact s_retQ w2 q (by walk_at "ev")
    · have z : [a, b].all (inR n) = true := by
        revert e
        cases [a, b].all (inR n) <;> intro e
        · cases e
        · rfl
      rw [z, Bool.true_and] at q
      exact s_retQ w2 q (ev_i0 (ev_ixT (ev_var w2 rfl) ev_int (d := .int a) rfl) (ev_ixT (ev_var w2 rfl) ev_int (d := .int b) rfl) (fun _ => .bl _))
def ltP (p q : Int × Int) : Prop := p.1 < q.1 ∨ (p.1 = q.1 ∧ p.2 < q.2)
def PairsOk (n : Int) (ps : List (Int × Int)) : Prop := (∀ p ∈ ps, 0 ≤ p.1 ∧ p.1 < p.2 ∧ p.2 < n) ∧ ps.Pairwise ltP ∧ ps.length ≤ 1000
theorem lexAt2 (e r : Nat → Bool) (z : Bool) : Ob.lexAt e r z 0 2 = if e 0 = true then (if e 1 = true then z else r 1) else r 0 := rfl
theorem ev_leP {C : Addr} {H : Hp} {σ : L2.St} {ta tb : TE} {p q : Int × Int} (ha : EvC K C ta σ H (.d (Pt.pairD p))) (hb : EvC K C tb σ H (.d (Pt.pairD q))) (lt : ltP q p) : EvC K C (tOp (rLeT K) ta tb) σ H (.d (.bool false)) :=
  ev_op2 ha hb fun H1 _ x y a1 a2 Q k => by
    obtain ⟨a, xs, rfl, s, t⟩ := Td.tup_of a1
    obtain ⟨b, ys, rfl, s', t'⟩ := Td.tup_of a2
    have e1 : xs = [p.1, p.2].map V.int := TdAll.iL_of (l := [p.1, p.2]) t
    have e2 : ys = [q.1, q.2].map V.int := TdAll.iL_of (l := [q.1, q.2]) t'
    rw [e1] at s
    rw [e2] at s'
    refine ⟨a, b, [p.1, p.2], [q.1, q.2], rfl, rfl, s.sq, s'.sq, ?_⟩
    have z : Ob.lexAt (fun j => decide ([p.1, p.2].getD j 0 = [q.1, q.2].getD j 0)) (fun j => decide ([p.1, p.2].getD j 0 ≤ [q.1, q.2].getD j 0)) (decide ([p.1, p.2].length ≤ [q.1, q.2].length)) 0 (min [p.1, p.2].length [q.1, q.2].length) = false := by
      show Ob.lexAt _ _ _ 0 2 = false
      rw [lexAt2]
      unfold ltP at lt
      simp only [List.getD_cons_zero, List.getD_cons_succ, decide_eq_true_eq]
      split
      · split
        · omega
        · simp
          omega
      · simp
        omega
    rw [z]
    exact k _ H1 (Same.refl H1) (.bl _)
abbrev A_check_pairs (as : List Ag) (d : PyData) : Prop := ∃ (n : Int) (ps : List (Int × Int)), PairsOk n ps ∧ as = [.c (.d (.int n)), .c (.d (pairsD ps))] ∧ d = .none
theorem ok_check_pairs (E : Nv K mg) : FnOk P w K mg base CX0 16 E.a_check_pairs E.d_check_pairs ["letters", "pairs"] (spC K E.C_Trade A_check_pairs) := by
  refine E.F_check_pairs.ok sc_check_pairs (fun vs H Q _ h => ?_) (fun cdv A outer s H vs Q _ hr h => ?_)
  · obtain ⟨as, d, ha, ⟨_, _, _, rfl, _⟩, _⟩ := h
    exact ha.length
  · obtain ⟨as, d, ha, ⟨n, ps, ⟨hin, hso, hle⟩, rfl, rfl⟩, q⟩ := h
    obtain ⟨v1, v2, rfl, a1, a2⟩ := ha.two
    refine ⟨_, (pss_cons (ps_if (pt_not (pt_truK K (pe_callB (call_isiK K) (by rfl) E.n_isinstance (by decide +kernel) (pa_cons (pv 1) (pa_cons (pe_bltn (v := .ty "tuple") (by rfl) E.n_tuple (by decide +kernel) rfl) pa_nil))) (fun _ => rfl))) (pss_one ps_never) pss_nil)
      (pss_one (ps_for PassesOwn.never rfl (pi_enumTK K (by rfl) E.n_enumerate (pa_cons (pv 1) pa_nil)) (pg_tupK K (n := 2) rfl (pgs_cons (pg_name (i := 2) sc_check_pairs.nd rfl (.inl rfl)) (pgs_cons (pg_name (i := 3) sc_check_pairs.nd rfl (.inl rfl)) pgs_nil)))
      (pss_cons (ps_if (pt_not (pt_truK K (pe_call (ok_is_pair E) (hr.mono (by first | decide | omega)) (by rfl) E.m_is_pair E.F_is_pair.kp E.b_is_pair .nil pass0 (pa_cons (pv 0) (pa_cons (pv 3) pa_nil))) (fun _ => rfl))) (pss_one ps_never) pss_nil)
      (pss_one (ps_if (PW.pt (pw_and (pt_cmpR (op_gt) (pv 2) pe_int (nomark _)) (pw_and1 (pt_cmpR (op_leTK K hr.units0) (pv 3) (pe_ix (ix_K K) (pv 1) (pe_op op_sub (pv 2) pe_int) (fun _ _ => rfl)) (nomark _))))) (pss_one ps_never) pss_nil)))))), ?_⟩
    have w : Wd K E.C_Trade [] [] H H _ [.d (.int n), .d (pairsD ps), .u, .u] := Wd.start2 (N := N_check_pairs) a1 a2
    refine s_when w (b := false) (et_cast (et_not (et_truB (ev_isiT (b := true) (ev_var w rfl) (by decide +kernel)))) rfl) (fun z => by cases z) (fun _ H1 w1 => ?_)
    refine s_forE w1 (ev_var w1 rfl) (fun a t σ H' => ∃ c2 c3, Wd K E.C_Trade [] [(.ref a, pairsD ps)] H H' σ [.d (.int n), .d (pairsD ps), c2, c3]) (fun a H1 w1 => ⟨_, _, w1⟩) (fun a k σ' H' ⟨_, _, w1⟩ => w1.gh0) ?_ ?_
    · rintro a t d v σ' H' H3 hd tv ⟨c2, c3, w2⟩ e3
      have ht : t < ps.length := by
        have := (List.getElem?_eq_some_iff.mp hd).1
        rw [List.length_map] at this
        exact this
      have ed : d = Pt.pairD ps[t] := by
        rw [List.getElem?_map, List.getElem?_eq_getElem ht] at hd
        exact (Option.some.inj hd).symm
      subst ed
      have w3 : Wd K E.C_Trade [] [(.ref a, pairsD ps)] H H3 _ [.d (.int n), .d (pairsD ps), .d (.int (t : Nat)), .d (Pt.pairD ps[t])] := ((w2.mono e3).set 2 (v := .int (t : Nat)) (c := .d (.int (t : Nat))) (Td.int _)).set 3 tv
      have hp := hin ps[t] (List.getElem_mem ht)
      have hz : ([ps[t].1, ps[t].2].all (inR n) && decide (ps[t].1 < ps[t].2)) = true := by
        simp [inR]
        omega
      refine s_when w3 (b := false) (et_cast (et_not (et_truB (ev_call (ea_cons (ev_var w3 rfl) (ea_cons (c := .d (row [ps[t].1, ps[t].2])) (ev_var w3 rfl) ea_nil)) ⟨_, _, _, rfl, rfl⟩))) (by rw [hz]; rfl)) (fun z => by cases z) (fun _ H4 w4 => ?_)
      refine s_if w4 (b := false) (et_cast (et_and (a := decide ((0 : Int) < (t : Int))) (b := false) (et_test (ev_i0 (ev_var w4 rfl) ev_int (fun _ => .bl _))) (fun z => ?_)) (Bool.and_false _)) (fun z => by cases z) (fun _ H5 w5 => ?_)
      · have h1 : 0 < t := by simpa using z
        have h2 : t - 1 < ps.length := by omega
        have lt : ltP ps[t - 1] ps[t] := List.pairwise_iff_getElem.mp hso (t - 1) t h2 ht (by omega)
        refine et_test (ev_leP (ev_var w4 rfl) (q := ps[t - 1]) (ev_ixT (ev_var w4 rfl) (ev_i0 (ev_var w4 rfl) ev_int (fun _ => .int _)) ?_) lt)
        have e : ((t : Nat) : Int) - 1 = ((t - 1 : Nat) : Int) := by omega
        show atI (ps.map Pt.pairD) (((t : Nat) : Int) - 1) = _
        rw [e]
        exact atI_nat (by rw [List.getElem?_map, List.getElem?_eq_getElem h2]; rfl)
      · exact s_next ⟨_, _, w5⟩
    · rintro a σ' H' ⟨c2, c3, w2⟩
      exact q .non H' w2.fr0 .non
def spInit (K : PySem.W.Frag) (C : Addr) : Sp := fun vs H Q _ => ∃ (p dx : Addr) (n : Int) (ps : List (Int × Int)) (v1 v2 : V), vs = [.ref p, v1, v2] ∧ H p = some (.ins C dx []) ∧ Td K H v1 (.int n) ∧ Td K H v2 (pairsD ps) ∧ 1 ≤ n ∧ n ≤ 6 ∧ PairsOk n ps ∧
  ∀ H', (∀ b o, H b = some o → b ≠ p → H' b = some o) → (∃ q, H' p = some (.ins C dx (flds n q)) ∧ Td K H' (.ref q) (pairsD ps)) → Q .non H'
theorem putF_flds (n : Int) (q : Addr) : putF "_pairs" (.ref q) (putF "_letters" (.int n) []) = flds n q := by
  show (if ("_letters" : Str) = "_pairs" then _ else _) = _
  rw [if_neg (fun e => by have := kne; rw [e, beq_self_eq_true] at this; cases this)]
  rfl
theorem Tx.ins {H : Hp} {p : Addr} {o : HO} {C dx : Addr} {fs : List (Str × V)} (h : H p = some (.ins C dx fs)) : Tx H (upd H p o) := fun a ob u e => by rw [upd_ne (ne_of e h (fun z => by cases z))]; exact e
theorem ok_Trade___init__ (E : Nv K mg) : FnOk P w K mg base CX0 20 E.a_Trade___init__ E.d_Trade___init__ ["self", "letters", "pairs"] (spInit K E.C_Trade) := by
  refine E.F_Trade___init__.ok sc_Trade___init__ (fun vs H Q _ h => ?_) (fun cdv A outer s H vs Q _ hr h => ?_)
  · obtain ⟨_, _, _, _, _, _, rfl, _⟩ := h
    rfl
  · obtain ⟨p, dx, n, ps, v1, v2, rfl, hp, t1, t2, h1, h6, hok, q⟩ := h
    refine ⟨_, (pss_cons (ps_if (pt_not (pt_truK K (pe_call (ok_is_whole E) (hr.mono (by first | decide | omega)) (by rfl) E.m_is_whole E.F_is_whole.kp E.b_is_whole .nil pass0 (pa_cons (pv 1) (pa_cons pe_int (pa_cons (pe_glob (v := .int 6) (by rfl) E.c_MOST_LETTERS ⟨_, rfl⟩) pa_nil)))) (fun _ => rfl))) (pss_one ps_never) pss_nil)
      (pss_cons (ps_expr (pe_call (ok_check_pairs E) (hr.mono (by first | decide | omega)) (by rfl) E.m_check_pairs E.F_check_pairs.kp E.b_check_pairs .nil pass0 (pa_cons (pv 1) (pa_cons (pv 2) pa_nil))))
      (pss_cons (ps_fld (pv 0) (pv 1) rfl)
      (pss_one (ps_fld (pv 0) (pv 2) rfl))))), ?_⟩
    have w : Wd K E.C_Trade [] [] H H _ [.r (.ref p), .d (.int n), .d (pairsD ps)] := Wd.start3 (N := N_Trade___init__) (c1 := .r (.ref p)) (c2 := .d (.int n)) (c3 := .d (pairsD ps)) rfl t1 t2
    refine s_when w (b := false) (et_cast (et_not (et_truB (ev_call (by walk_at "ea") ⟨n, 1, 6, rfl, rfl⟩))) (by simp; omega)) (fun z => by cases z) (fun _ H1 w1 => ?_)
    refine q_drop w1 (ev_call (by walk_at "ea") ⟨_, _, hok, rfl, rfl⟩) fun H2 w2 => ?_
    obtain ⟨x1, e1, s1⟩ := w2.get (i := 1) rfl
    obtain ⟨x2, e2, s2⟩ := w2.get (i := 2) rfl
    obtain ⟨x0, e0, rfl⟩ := w2.get (i := 0) rfl
    have hp2 : H2 p = some (.ins E.C_Trade dx []) := w2.fr0 _ _ hp
    rw [Td.int_of s1] at e1
    obtain ⟨qa, ys, rfl, sq, _⟩ := Td.tup_of s2
    refine ⟨.int n, e1, .ref p, e0, p, E.C_Trade, dx, [], rfl, hp2, E.cl, E.nl, by decide, ?_⟩
    refine ⟨.ref qa, e2, .ref p, e0, p, E.C_Trade, dx, _, rfl, upd_same, E.cl, E.np, by show 1 < 1000; decide, ?_⟩
    refine q _ (fun b o hb ne => ?_) ⟨qa, ?_, ?_⟩
    · rw [upd_upd, upd_ne ne]
      exact w2.fr0 _ _ hb
    · rw [upd_same, putF_flds]
    · rw [upd_upd]
      exact Td.mono (Tx.ins hp2) _ _ s2
theorem ev_makeT {C : Addr} {H : Hp} {σ : L2.St} {ta tb : TE} {E : XK} {n : Int} {ps : List (Int × Int)} (ha : EvC K C ta σ H (.d (.int n))) (hb : EvC K C tb σ H (.d (pairsD ps))) (h1 : 1 ≤ n) (h6 : n ≤ 6) (hok : PairsOk n ps) : EvC K C (tMake C (spInit K C) [] E (tCons ta (tCons tb tNil))) σ H (.t n ps) := fun H1 e1 Q q =>
  ha H1 e1 _ fun v H2 e2 a => hb H2 (e1.trans e2) _ fun y H3 e3 b => fun x dx nx ndx nex => by
    have s3 : Same H3 (upd (upd H3 dx (.own x)) x (.ins C dx [])) := fun c o e => by
      rw [upd_ne (ne_of_none e nx), upd_ne (ne_of_none e ndx)]
      exact e
    refine ⟨x, dx, n, ps, v, y, rfl, upd_same, Td.mono (.of (e3.trans s3)) _ _ a, Td.mono (.of s3) _ _ b, h1, h6, hok, fun H' k1 ⟨r, k2, k3⟩ => ⟨rfl, ?_⟩⟩
    exact q _ H' ((e2.trans e3).trans fun c o e => k1 c o (s3 c o e) (ne_of_none e nx)) ⟨x, dx, r, rfl, k2, k3⟩
end
end K1
set_option maxRecDepth 10000000
namespace K1
open PySem PySem.Spec PyProof.Rows L2 Pt
local macro_rules
  | `(tactic| walk_at "sz") => `(tactic| first
    | omega
    | decide
    | (simp; omega)
    | (simp [iL, row, pairsD]; omega))
  | `(tactic| walk_at "ea") => `(tactic| first
    | (with_reducible exact ea_nil)
    | ((with_reducible apply ea_consL); (focus (walk_at "ev")); (focus (walk_at "ea")))
    | ((with_reducible apply ea_consS); (focus (walk_at "ev")); (focus (walk_at "ea")))
    | ((with_reducible apply ea_cons); (focus (walk_at "ev")); (focus (walk_at "ea")))
    | ((with_reducible apply ea_consN); (focus (walk_at "en")); (focus (walk_at "ea"))))
  | `(tactic| walk_at "ed") => `(tactic| first
    | (with_reducible exact ed_nil)
    | ((with_reducible apply ed_cons); (focus (walk_at "ev")); (focus (walk_at "ed"))))
  | `(tactic| walk_at "en") => `(tactic| first
    | ((with_reducible apply en_lst); (focus (walk_at "ed")); (focus (simp)))
    | ((with_reducible apply en_listT); (focus (walk_at "ev")))
    | ((with_reducible apply en_addL); (focus (walk_at "ev")); (focus (walk_at "en")); (focus (walk_at "sz")))
    | ((with_reducible apply en_addN); (focus (walk_at "en")); (focus (walk_at "en")); (focus (walk_at "sz")))
    | ((with_reducible apply en_slL); (focus (walk_at "ev")); (focus (walk_at "eo")); (focus (walk_at "eo"))))
  | `(tactic| walk_at "eo") => `(tactic| first
    | (with_reducible exact eo_none)
    | ((with_reducible apply eo_some); (focus (walk_at "ev"))))
  | `(tactic| walk_at "et") => `(tactic| first
    | (with_reducible exact et_yes)
    | ((with_reducible apply et_test); (focus (walk_at "ev")))
    | ((with_reducible apply et_B); (focus (walk_at "ev")))
    | ((with_reducible apply et_truB); (focus (walk_at "ev")))
    | ((with_reducible apply et_truT); (focus (walk_at "ev")))
    | ((with_reducible apply et_not); (focus (walk_at "et")))
    | ((with_reducible apply et_and); (focus (walk_at "et")); (focus (intro _; walk_at "et")))
    | ((with_reducible apply et_or); (focus (walk_at "et")); (focus (intro _; walk_at "et"))))
  | `(tactic| walk_at "var") => `(tactic| first
    | ((with_reducible apply ev_varD); (focus (assumption)); (focus (rfl)))
    | ((with_reducible apply ev_varL); (focus (assumption)); (focus (rfl)))
    | ((with_reducible apply ev_varS); (focus (assumption)); (focus (rfl)))
    | ((with_reducible apply ev_varT); (focus (assumption)); (focus (rfl)))
    | ((with_reducible apply ev_varH); (focus (assumption)); (focus (rfl)))
    | ((with_reducible apply ev_varZ); (focus (assumption)); (focus (rfl))))
  | `(tactic| walk_at "ev") => `(tactic| first
    | walk_at "var"
    | (with_reducible exact ev_int)
    | (with_reducible exact ev_bl)
    | (with_reducible exact ev_str)
    | (with_reducible exact ev_non)
    | ((with_reducible apply ev_letters); (focus (walk_at "ev")))
    | ((with_reducible apply ev_pairs); (focus (walk_at "ev")))
    | ((with_reducible apply ev_addI); (focus (walk_at "ev")); (focus (walk_at "ev")))
    | ((with_reducible apply ev_addT); (focus (walk_at "ev")); (focus (walk_at "ev")); (focus (walk_at "sz")))
    | ((with_reducible apply ev_i0); (focus (walk_at "ev")); (focus (walk_at "ev")); (focus (first | exact fun _ => .int _ | exact fun _ => .bl _)))
    | ((with_reducible apply ev_iC); (focus (walk_at "ev")); (focus (walk_at "ev")); (focus (first | assumption | walk_at "cond")); (focus (exact fun _ => .int _)))
    | ((with_reducible apply ev_chain); (focus (walk_at "ev")); (focus (walk_at "ev")); (focus (walk_at "ev")))
    | ((with_reducible apply ev_eqI); (focus (walk_at "ev")); (focus (walk_at "ev")))
    | ((with_reducible apply ev_neI); (focus (walk_at "ev")); (focus (walk_at "ev")))
    | ((with_reducible apply ev_eqR); (focus (walk_at "ev")); (focus (walk_at "ev")))
    | ((with_reducible apply ev_neR); (focus (walk_at "ev")); (focus (walk_at "ev")))
    | ((with_reducible apply ev_isN); (focus (walk_at "ev")))
    | ((with_reducible apply ev_notN); (focus (walk_at "ev")))
    | ((with_reducible apply ev_in2); (focus (walk_at "ev")); (focus (walk_at "ev")); (focus (walk_at "ev")))
    | ((with_reducible apply ev_inP); (focus (walk_at "ev")); (focus (walk_at "ev")))
    | ((with_reducible apply ev_tup); (focus (walk_at "ed")); (focus (simp)))
    | ((with_reducible apply ev_lenT); (focus (walk_at "ev")))
    | ((with_reducible apply ev_lenL); (focus (walk_at "ev")))
    | ((with_reducible apply ev_lenS); (focus (walk_at "ev")))
    | ((with_reducible apply ev_lenN); (focus (walk_at "en")))
    | ((with_reducible apply ev_max2); (focus (walk_at "ev")); (focus (walk_at "ev")))
    | ((with_reducible apply ev_min2); (focus (walk_at "ev")); (focus (walk_at "ev")))
    | ((with_reducible apply ev_int1); (focus (walk_at "ev")))
    | ((with_reducible apply ev_tupleL); (focus (walk_at "ev")))
    | ((with_reducible apply ev_tupleN); (focus (walk_at "en")))
    | ((with_reducible apply ev_countT); (focus (walk_at "ev")); (focus (walk_at "ev")))
    | ((with_reducible apply ev_andV); (focus (walk_at "ev")); (focus (intro _; walk_at "ev")))
    | ((with_reducible apply ev_orV); (focus (walk_at "ev")); (focus (intro _; walk_at "ev")))
    | ((with_reducible apply ev_notV); (focus (walk_at "ev"))))
section
variable {P : Program} {w : World} {K : PySem.W.Frag} {mg : Str → Option Value} {base : Heap}
def mayL (ps : List (Int × Int)) (a b : Int) : Bool := decide ((a, b) ∈ ps) || decide ((b, a) ∈ ps)
theorem mayL_eq {n : Int} {ps : List (Int × Int)} (h : PairsOk n ps) (a b : Int) : mayL ps a b = may ps a b := by
  have hlt : ∀ {x y : Int}, (x, y) ∈ ps → x < y := fun {x y} m => (h.1 _ m).2.1
  unfold mayL may
  rcases Int.lt_trichotomy a b with z | z | z
  · rw [Int.min_eq_left (by omega), Int.max_eq_right (by omega), decide_eq_false (p := (b, a) ∈ ps) (fun m => by have := hlt m; omega), Bool.or_false]
  · subst z
    rw [Int.min_eq_left (by omega), Int.max_eq_right (by omega), Bool.or_self]
  · rw [Int.min_eq_right (by omega), Int.max_eq_left (by omega), decide_eq_false (p := (a, b) ∈ ps) (fun m => by have := hlt m; omega), Bool.false_or]
abbrev A_law_may (as : List Ag) (d : PyData) : Prop := ∃ (ps : List (Int × Int)) (a b : Int), as = [.c (.d (pairsD ps)), .c (.d (.int a)), .c (.d (.int b))] ∧ d = .bool (mayL ps a b)
theorem ok__law_may (E : Nv K mg) : FnOk P w K mg base CX0 8 E.a__law_may E.d__law_may ["_law_pairs_here", "_law_a", "_law_b"] (spC K E.C_Trade A_law_may) := by
  refine E.F__law_may.ok sc__law_may (fun vs H Q _ h => ?_) (fun cdv A outer s H vs Q _ hr h => ?_)
  · obtain ⟨as, d, ha, ⟨_, _, _, rfl, _⟩, _⟩ := h
    exact ha.length
  · obtain ⟨as, d, ha, ⟨ps, a, b, rfl, rfl⟩, q⟩ := h
    obtain ⟨v1, v2, v3, rfl, a1, a2, a3⟩ := ha.three
    refine ⟨_, (pss_one (ps_ret (pe_or (pe_cmpR (op_inTK K hr.units65) (pe_tupF (pa_cons (pv 1) (pa_cons (pv 2) pa_nil))) (pv 0) (by with_unfolding_all rfl)) (pe_one (pe_cmpR (op_inTK K hr.units65) (pe_tupF (pa_cons (pv 2) (pa_cons (pv 1) pa_nil))) (pv 0) (by with_unfolding_all rfl)))))), ?_⟩
    have w : Wd K E.C_Trade [] [] H H _ [.d (pairsD ps), .d (.int a), .d (.int b)] := Wd.start3 (N := N__law_may) a1 a2 a3
    exact s_retQ w q (ev_orV (by walk_at "ev") fun _ => by walk_at "ev")
end
end K1
set_option maxRecDepth 10000000
namespace K1
open PySem PySem.Spec PyProof.Rows L2 Pt
local macro_rules
  | `(tactic| walk_at "sz") => `(tactic| first
    | omega
    | decide
    | (simp; omega)
    | (simp [iL, row, pairsD]; omega))
  | `(tactic| walk_at "ea") => `(tactic| first
    | (with_reducible exact ea_nil)
    | ((with_reducible apply ea_consL); (focus (walk_at "ev")); (focus (walk_at "ea")))
    | ((with_reducible apply ea_consS); (focus (walk_at "ev")); (focus (walk_at "ea")))
    | ((with_reducible apply ea_cons); (focus (walk_at "ev")); (focus (walk_at "ea")))
    | ((with_reducible apply ea_consN); (focus (walk_at "en")); (focus (walk_at "ea"))))
  | `(tactic| walk_at "ed") => `(tactic| first
    | (with_reducible exact ed_nil)
    | ((with_reducible apply ed_cons); (focus (walk_at "ev")); (focus (walk_at "ed"))))
  | `(tactic| walk_at "en") => `(tactic| first
    | ((with_reducible apply en_lst); (focus (walk_at "ed")); (focus (simp)))
    | ((with_reducible apply en_listT); (focus (walk_at "ev")))
    | ((with_reducible apply en_addL); (focus (walk_at "ev")); (focus (walk_at "en")); (focus (walk_at "sz")))
    | ((with_reducible apply en_addN); (focus (walk_at "en")); (focus (walk_at "en")); (focus (walk_at "sz")))
    | ((with_reducible apply en_slL); (focus (walk_at "ev")); (focus (walk_at "eo")); (focus (walk_at "eo"))))
  | `(tactic| walk_at "eo") => `(tactic| first
    | (with_reducible exact eo_none)
    | ((with_reducible apply eo_some); (focus (walk_at "ev"))))
  | `(tactic| walk_at "et") => `(tactic| first
    | (with_reducible exact et_yes)
    | ((with_reducible apply et_test); (focus (walk_at "ev")))
    | ((with_reducible apply et_B); (focus (walk_at "ev")))
    | ((with_reducible apply et_truB); (focus (walk_at "ev")))
    | ((with_reducible apply et_truT); (focus (walk_at "ev")))
    | ((with_reducible apply et_not); (focus (walk_at "et")))
    | ((with_reducible apply et_and); (focus (walk_at "et")); (focus (intro _; walk_at "et")))
    | ((with_reducible apply et_or); (focus (walk_at "et")); (focus (intro _; walk_at "et"))))
  | `(tactic| walk_at "var") => `(tactic| first
    | ((with_reducible apply ev_varD); (focus (assumption)); (focus (rfl)))
    | ((with_reducible apply ev_varL); (focus (assumption)); (focus (rfl)))
    | ((with_reducible apply ev_varS); (focus (assumption)); (focus (rfl)))
    | ((with_reducible apply ev_varT); (focus (assumption)); (focus (rfl)))
    | ((with_reducible apply ev_varH); (focus (assumption)); (focus (rfl)))
    | ((with_reducible apply ev_varZ); (focus (assumption)); (focus (rfl))))
  | `(tactic| walk_at "ev") => `(tactic| first
    | walk_at "var"
    | (with_reducible exact ev_int)
    | (with_reducible exact ev_bl)
    | (with_reducible exact ev_str)
    | (with_reducible exact ev_non)
    | ((with_reducible apply ev_letters); (focus (walk_at "ev")))
    | ((with_reducible apply ev_pairs); (focus (walk_at "ev")))
    | ((with_reducible apply ev_addI); (focus (walk_at "ev")); (focus (walk_at "ev")))
    | ((with_reducible apply ev_addT); (focus (walk_at "ev")); (focus (walk_at "ev")); (focus (walk_at "sz")))
    | ((with_reducible apply ev_i0); (focus (walk_at "ev")); (focus (walk_at "ev")); (focus (first | exact fun _ => .int _ | exact fun _ => .bl _)))
    | ((with_reducible apply ev_iC); (focus (walk_at "ev")); (focus (walk_at "ev")); (focus (first | assumption | walk_at "cond")); (focus (exact fun _ => .int _)))
    | ((with_reducible apply ev_chain); (focus (walk_at "ev")); (focus (walk_at "ev")); (focus (walk_at "ev")))
    | ((with_reducible apply ev_eqI); (focus (walk_at "ev")); (focus (walk_at "ev")))
    | ((with_reducible apply ev_neI); (focus (walk_at "ev")); (focus (walk_at "ev")))
    | ((with_reducible apply ev_eqR); (focus (walk_at "ev")); (focus (walk_at "ev")))
    | ((with_reducible apply ev_neR); (focus (walk_at "ev")); (focus (walk_at "ev")))
    | ((with_reducible apply ev_isN); (focus (walk_at "ev")))
    | ((with_reducible apply ev_notN); (focus (walk_at "ev")))
    | ((with_reducible apply ev_in2); (focus (walk_at "ev")); (focus (walk_at "ev")); (focus (walk_at "ev")))
    | ((with_reducible apply ev_inP); (focus (walk_at "ev")); (focus (walk_at "ev")))
    | ((with_reducible apply ev_tup); (focus (walk_at "ed")); (focus (simp)))
    | ((with_reducible apply ev_lenT); (focus (walk_at "ev")))
    | ((with_reducible apply ev_lenL); (focus (walk_at "ev")))
    | ((with_reducible apply ev_lenS); (focus (walk_at "ev")))
    | ((with_reducible apply ev_lenN); (focus (walk_at "en")))
    | ((with_reducible apply ev_max2); (focus (walk_at "ev")); (focus (walk_at "ev")))
    | ((with_reducible apply ev_min2); (focus (walk_at "ev")); (focus (walk_at "ev")))
    | ((with_reducible apply ev_int1); (focus (walk_at "ev")))
    | ((with_reducible apply ev_tupleL); (focus (walk_at "ev")))
    | ((with_reducible apply ev_tupleN); (focus (walk_at "en")))
    | ((with_reducible apply ev_countT); (focus (walk_at "ev")); (focus (walk_at "ev")))
    | ((with_reducible apply ev_andV); (focus (walk_at "ev")); (focus (intro _; walk_at "ev")))
    | ((with_reducible apply ev_orV); (focus (walk_at "ev")); (focus (intro _; walk_at "ev")))
    | ((with_reducible apply ev_notV); (focus (walk_at "ev"))))
section
variable {P : Program} {w : World} {K : PySem.W.Frag} {mg : Str → Option Value} {base : Heap}
def okAt (ps : List (Int × Int)) (l : List Int) (k : Nat) : Prop := ∃ a b, l[k]? = some a ∧ l[k + 1]? = some b ∧ may ps a b = true
def swapAt (l : List Int) (k : Nat) : List Int := l.take k ++ [l.getD (k + 1) 0, l.getD k 0] ++ l.drop (k + 2)
inductive Walks (ps : List (Int × Int)) : List Int → List Int → List Int → Prop
  | nil {l : List Int} : Walks ps l [] l
  | cons {l : List Int} {k : Nat} {ks m : List Int} : okAt ps l k → Walks ps (swapAt l k) ks m → Walks ps l ((k : Int) :: ks) m
theorem okAt_lt {ps : List (Int × Int)} {l : List Int} {k : Nat} (h : okAt ps l k) : k + 1 < l.length := by
  obtain ⟨a, b, _, h, _⟩ := h
  exact (List.getElem?_eq_some_iff.mp h).1
end
end K1
set_option maxRecDepth 10000000
namespace K1
open PySem PySem.Spec PyProof.Rows L2 Pt
local macro_rules
  | `(tactic| walk_at "sz") => `(tactic| first
    | omega
    | decide
    | (simp; omega)
    | (simp [iL, row, pairsD]; omega))
  | `(tactic| walk_at "ea") => `(tactic| first
    | (with_reducible exact ea_nil)
    | ((with_reducible apply ea_consL); (focus (walk_at "ev")); (focus (walk_at "ea")))
    | ((with_reducible apply ea_consS); (focus (walk_at "ev")); (focus (walk_at "ea")))
    | ((with_reducible apply ea_cons); (focus (walk_at "ev")); (focus (walk_at "ea")))
    | ((with_reducible apply ea_consN); (focus (walk_at "en")); (focus (walk_at "ea"))))
  | `(tactic| walk_at "ed") => `(tactic| first
    | (with_reducible exact ed_nil)
    | ((with_reducible apply ed_cons); (focus (walk_at "ev")); (focus (walk_at "ed"))))
  | `(tactic| walk_at "en") => `(tactic| first
    | ((with_reducible apply en_lst); (focus (walk_at "ed")); (focus (simp)))
    | ((with_reducible apply en_listT); (focus (walk_at "ev")))
    | ((with_reducible apply en_addL); (focus (walk_at "ev")); (focus (walk_at "en")); (focus (walk_at "sz")))
    | ((with_reducible apply en_addN); (focus (walk_at "en")); (focus (walk_at "en")); (focus (walk_at "sz")))
    | ((with_reducible apply en_slL); (focus (walk_at "ev")); (focus (walk_at "eo")); (focus (walk_at "eo"))))
  | `(tactic| walk_at "eo") => `(tactic| first
    | (with_reducible exact eo_none)
    | ((with_reducible apply eo_some); (focus (walk_at "ev"))))
  | `(tactic| walk_at "et") => `(tactic| first
    | (with_reducible exact et_yes)
    | ((with_reducible apply et_test); (focus (walk_at "ev")))
    | ((with_reducible apply et_B); (focus (walk_at "ev")))
    | ((with_reducible apply et_truB); (focus (walk_at "ev")))
    | ((with_reducible apply et_truT); (focus (walk_at "ev")))
    | ((with_reducible apply et_not); (focus (walk_at "et")))
    | ((with_reducible apply et_and); (focus (walk_at "et")); (focus (intro _; walk_at "et")))
    | ((with_reducible apply et_or); (focus (walk_at "et")); (focus (intro _; walk_at "et"))))
  | `(tactic| walk_at "var") => `(tactic| first
    | ((with_reducible apply ev_varD); (focus (assumption)); (focus (rfl)))
    | ((with_reducible apply ev_varL); (focus (assumption)); (focus (rfl)))
    | ((with_reducible apply ev_varS); (focus (assumption)); (focus (rfl)))
    | ((with_reducible apply ev_varT); (focus (assumption)); (focus (rfl)))
    | ((with_reducible apply ev_varH); (focus (assumption)); (focus (rfl)))
    | ((with_reducible apply ev_varZ); (focus (assumption)); (focus (rfl))))
  | `(tactic| walk_at "ev") => `(tactic| first
    | walk_at "var"
    | (with_reducible exact ev_int)
    | (with_reducible exact ev_bl)
    | (with_reducible exact ev_str)
    | (with_reducible exact ev_non)
    | ((with_reducible apply ev_letters); (focus (walk_at "ev")))
    | ((with_reducible apply ev_pairs); (focus (walk_at "ev")))
    | ((with_reducible apply ev_addI); (focus (walk_at "ev")); (focus (walk_at "ev")))
    | ((with_reducible apply ev_addT); (focus (walk_at "ev")); (focus (walk_at "ev")); (focus (walk_at "sz")))
    | ((with_reducible apply ev_i0); (focus (walk_at "ev")); (focus (walk_at "ev")); (focus (first | exact fun _ => .int _ | exact fun _ => .bl _)))
    | ((with_reducible apply ev_iC); (focus (walk_at "ev")); (focus (walk_at "ev")); (focus (first | assumption | walk_at "cond")); (focus (exact fun _ => .int _)))
    | ((with_reducible apply ev_chain); (focus (walk_at "ev")); (focus (walk_at "ev")); (focus (walk_at "ev")))
    | ((with_reducible apply ev_eqI); (focus (walk_at "ev")); (focus (walk_at "ev")))
    | ((with_reducible apply ev_neI); (focus (walk_at "ev")); (focus (walk_at "ev")))
    | ((with_reducible apply ev_eqR); (focus (walk_at "ev")); (focus (walk_at "ev")))
    | ((with_reducible apply ev_neR); (focus (walk_at "ev")); (focus (walk_at "ev")))
    | ((with_reducible apply ev_isN); (focus (walk_at "ev")))
    | ((with_reducible apply ev_notN); (focus (walk_at "ev")))
    | ((with_reducible apply ev_in2); (focus (walk_at "ev")); (focus (walk_at "ev")); (focus (walk_at "ev")))
    | ((with_reducible apply ev_inP); (focus (walk_at "ev")); (focus (walk_at "ev")))
    | ((with_reducible apply ev_tup); (focus (walk_at "ed")); (focus (simp)))
    | ((with_reducible apply ev_lenT); (focus (walk_at "ev")))
    | ((with_reducible apply ev_lenL); (focus (walk_at "ev")))
    | ((with_reducible apply ev_lenS); (focus (walk_at "ev")))
    | ((with_reducible apply ev_lenN); (focus (walk_at "en")))
    | ((with_reducible apply ev_max2); (focus (walk_at "ev")); (focus (walk_at "ev")))
    | ((with_reducible apply ev_min2); (focus (walk_at "ev")); (focus (walk_at "ev")))
    | ((with_reducible apply ev_int1); (focus (walk_at "ev")))
    | ((with_reducible apply ev_tupleL); (focus (walk_at "ev")))
    | ((with_reducible apply ev_tupleN); (focus (walk_at "en")))
    | ((with_reducible apply ev_countT); (focus (walk_at "ev")); (focus (walk_at "ev")))
    | ((with_reducible apply ev_andV); (focus (walk_at "ev")); (focus (intro _; walk_at "ev")))
    | ((with_reducible apply ev_orV); (focus (walk_at "ev")); (focus (intro _; walk_at "ev")))
    | ((with_reducible apply ev_notV); (focus (walk_at "ev"))))
section
variable {P : Program} {w : World} {K : PySem.W.Frag} {mg : Str → Option Value} {base : Heap}
theorem cmulR {i j : Int} (h : -(2 ^ 64) < j ∧ j < 2 ^ 64) : CMul i j := .inr h
theorem ok__law_mix (E : Nv K mg) : FnOk P w K mg base CX0 4 E.a__law_mix E.d__law_mix ["_law_script", "_law_seed"] (spM K E.C_Trade) := by
  refine E.F__law_mix.ok sc__law_mix (fun vs H Q _ h => ?_) (fun cdv A outer s H vs Q _ hr h => ?_)
  · obtain ⟨z, cells, v1, k, rfl, _⟩ := h
    rfl
  · obtain ⟨z, cells, v1, k, rfl, hz, hl, q⟩ := h
    refine ⟨_, (pss_cons (ps_set (i := 2) sc__law_mix.nd rfl (.inl rfl) (pv 1))
      (pss_cons (ps_for PassesOwn.never rfl (pi_listK K (pv 0)) (pg_name (i := 3) sc__law_mix.nd rfl (.inl rfl))
      (pss_one (ps_set (i := 2) sc__law_mix.nd rfl (.inl rfl) (pe_op op_mod (pe_callTy call_int1' (by rfl) E.n_int (by decide +kernel) (pa_cons (pe_op (op_addK K) (pe_op (op_addK K) (pe_op op_mul (pv 2) pe_int) (pe_op op_mod (pe_callTy call_int1' (by rfl) E.n_int (by decide +kernel) (pa_cons (pv 3) pa_nil)) pe_int)) pe_int) pa_nil)) pe_int))))
      (pss_one (ps_ret (pe_lst (pa_cons (pv 2) (pa_cons (pe_callTy (call_listK K) (by rfl) E.n_list (by decide +kernel) (pa_cons (pv 0) pa_nil)) (pa_cons pe_int pa_nil)))))))), ?_⟩
    have w : Wd K E.C_Trade [] [] H H _ [.z z (iL cells), .d (.int k), .u, .u] := Wd.start2 (N := N__law_mix) (c1 := .z z (iL cells)) (c2 := .d (.int k)) hz (Td.int k)
    refine q_asgD w (ev_var w rfl) fun σ1 H1 w1 => ?_
    refine q_forZ w1 (ev_var (i := 0) w1 rfl) (fun t σ H' => ∃ (st : Int) (c3 : Ct), Wd K E.C_Trade [] [] H H' σ [.z z (iL cells), .d (.int k), .d (.int st), c3]) (fun H2 w2 => ⟨_, _, w2⟩) (fun t σ H' ⟨st, c3, w2⟩ => ?_) ?_ ?_
    · obtain ⟨v, _, _, xs, s, t⟩ := w2.get (i := 0) rfl
      exact ⟨xs, s.sq, t⟩
    · rintro t d v σ H' hd tv ⟨st, c3, w2⟩
      obtain ⟨x, rfl⟩ : ∃ x : Int, d = .int x := by
        rw [iL_get] at hd
        cases e : cells[t]? with
        | none => rw [e] at hd; cases hd
        | some x => rw [e] at hd; exact ⟨x, (Option.some.inj hd).symm⟩
      have w3 : Wd K E.C_Trade [] [] H H' _ [.z z (iL cells), .d (.int k), .d (.int st), .d (.int x)] := w2.set 3 tv
      refine s_asgD w3 (ev_iC (ev_int1 (ev_addI (ev_addI (ev_iC (ev_var w3 rfl) ev_int (cmulR ⟨by decide, by decide⟩) (fun _ => .int _)) (ev_iC (ev_int1 (ev_var w3 rfl)) ev_int (by decide) (fun _ => .int _))) ev_int)) ev_int (by decide) (fun _ => .int _)) fun σ4 H4 w4 => ⟨_, _, w4⟩
    · rintro σ H' ⟨st, c3, w2⟩
      unfold tRet tLst tCons
      refine (ev_var w2 rfl : EvC K E.C_Trade (tVar 2) σ H' (.d (.int st))) H' (Same.refl H') _ fun v H2 e2 a2 => ?_
      rw [Td.int_of a2]
      refine (en_listZ (ev_var (w2.mono e2) rfl) : EvN K E.C_Trade _ σ H2 (iL cells)) H2 (Same.refl H2) _ fun c H3 hc e3 a3 => ?_
      obtain ⟨_, xs, hx, tx⟩ := a3
      rw [tx.iL_of] at hx
      refine ⟨by show 3 ≤ sizeLine; decide, fun p hp => ?_⟩
      have hpc : p ≠ c := ne_of_none' hp hx
      have e4 : Same H3 (upd H3 p (.lst [.int st, .ref c, .int 0])) := same_new hp
      have f0 := ((w2.mono e2).mono e3).fr0
      refine q p c _ ?_ ?_ (f0.trans e4) (show Src _ p c st 0 cells from ⟨upd_same, e4 _ _ hx, hpc, hl⟩).ct
      · exact f0.free hp
      · exact (w2.mono e2).fresh0 hc
theorem ok__law_next (E : Nv K mg) : FnOk P w K mg base CX0 4 E.a__law_next E.d__law_next ["_law_h", "_law_bound"] (spH K E.C_Trade) := by
  refine E.F__law_next.ok sc__law_next (fun vs H Q _ h => ?_) (fun cdv A outer s H vs Q _ hr h => ?_)
  · obtain ⟨p, c, b, rfl, _⟩ := h
    rfl
  · obtain ⟨p, c, b, rfl, ⟨_, hpc, st, k, cells, hp, hc, hl⟩, hb1, hb2, q⟩ := h
    refine ⟨_, (pss_cons (ps_set (i := 2) sc__law_next.nd rfl (.inl rfl) (pe_ix (ix_K K) (pe_op (op_addK K) (pe_ix (ix_K K) (pv 0) pe_int (fun _ _ => rfl)) (pe_lst (pa_cons pe_int pa_nil))) (pe_op op_mod (pe_callTy call_int1' (by rfl) E.n_int (by decide +kernel) (pa_cons (pe_ix (ix_K K) (pv 0) pe_int (fun _ _ => rfl)) pa_nil)) (pe_callB (call_max2' rfl) (by rfl) E.n_max (by decide +kernel) (pa_cons pe_int (pa_cons (pe_callB (call_lenK K) (by rfl) E.n_len (by decide +kernel) (pa_cons (pe_ix (ix_K K) (pv 0) pe_int (fun _ _ => rfl)) pa_nil)) pa_nil)))) (fun _ _ => rfl)))
      (pss_cons (ps_if (pt_cmpR (op_ge) (pv 2) (pe_op op_pow pe_int pe_int) (nomark _)) (pss_cons (ps_set (i := 3) sc__law_next.nd rfl (.inl rfl) (pe_ix (ix_K K) (pv 0) pe_int (fun _ _ => rfl)))
      (pss_cons (ps_asg (pe_op op_fdiv (pv 2) (pv 1)) (pg_sub (pv 3) (pe_op op_mod (pe_callTy call_int1' (by rfl) E.n_int (by decide +kernel) (pa_cons (pe_ix (ix_K K) (pv 0) pe_int (fun _ _ => rfl)) pa_nil)) (pe_callB (call_lenK K) (by rfl) E.n_len (by decide +kernel) (pa_cons (pv 3) pa_nil))) set_list))
      (pss_one (ps_ret (pe_op op_mod (pe_callTy call_int1' (by rfl) E.n_int (by decide +kernel) (pa_cons (pv 2) pa_nil)) (pv 1)))))) pss_nil)
      (pss_cons (ps_asg (pe_op op_mod (pe_callTy call_int1' (by rfl) E.n_int (by decide +kernel) (pa_cons (pe_op (op_addK K) (pe_op (op_addK K) (pe_op op_mul (pe_ix (ix_K K) (pv 0) pe_int (fun _ _ => rfl)) pe_int) (pe_op op_mul (pv 2) pe_int)) pe_int) pa_nil)) pe_int) (pg_sub (pv 0) pe_int set_list))
      (pss_cons (ps_asg (pe_op (op_addK K) (pe_ix (ix_K K) (pv 0) pe_int (fun _ _ => rfl)) pe_int) (pg_sub (pv 0) pe_int set_list))
      (pss_one (ps_ret (pe_op op_mod (pe_callTy call_int1' (by rfl) E.n_int (by decide +kernel) (pa_cons (pe_op op_fdiv (pe_ix (ix_K K) (pv 0) pe_int (fun _ _ => rfl)) pe_int) pa_nil)) (pv 1)))))))), ?_⟩
    have S0 : Src H p c st k cells := ⟨hp, hc, hpc, hl⟩
    have hM : (0 : Int) < max 1 (cells.length : Int) := by omega
    have i0 := Int.emod_nonneg k (show max 1 (cells.length : Int) ≠ 0 by omega)
    have i1 := Int.emod_lt_of_pos k hM
    have hj : (k % max 1 (cells.length : Int)).toNat < (cells ++ [0]).length := by
      rw [List.length_append]
      simp only [List.length_cons, List.length_nil]
      omega
    obtain ⟨cell, hcell⟩ : ∃ cell, (cells ++ [0])[(k % max 1 (cells.length : Int)).toNat]? = some cell := ⟨_, List.getElem?_eq_getElem hj⟩
    have g0 : atI (iL cells ++ [.int 0]) (k % max 1 (cells.length : Int)) = some (.int cell) := by
      have e : k % max 1 (cells.length : Int) = ((k % max 1 (cells.length : Int)).toNat : Int) := by omega
      rw [e]
      refine atI_nat ?_
      have z : iL cells ++ [.int 0] = iL (cells ++ [0]) := by rw [iL_app]; rfl
      rw [z, iL_get, hcell]
      rfl
    refine (ev_ixN (K := K) (C := E.C_Trade) (d := .int cell) (en_addL (src_c S0 rfl) (en_lst (ed_cons ev_int ed_nil)) (by rw [iL_len]; simp; omega)) (ev_iC (ev_int1 (src_k S0 rfl)) (ev_max2 ev_int (ev_d (ev_lenL (src_c S0 rfl)) (by rw [iL_len]))) hM (fun _ => .int _)) g0) H (Same.refl H) _ fun v H1 e1 a1 => ?_
    rw [Td.int_of a1]
    have S1 := S0.mono e1
    refine (et_test (ev_i0 (K := K) (C := E.C_Trade) (ev_at (k := cell) rfl) (ev_iC (d := .int (10 ^ 18)) ev_int ev_int ⟨by decide, by decide, by decide⟩ (fun _ => .int _)) (fun _ => .bl _))) H1 (Same.refl H1) _ fun H2 e2 => ?_
    have S2 := S1.mono e2
    by_cases hbig : (10 ^ 18 : Int) ≤ cell
    · rw [if_pos (decide_eq_true hbig)]
      have hj2 : (k % max 1 (cells.length : Int)).toNat < cells.length := by
        rcases Nat.lt_or_ge (k % max 1 (cells.length : Int)).toNat cells.length with z | z
        · exact z
        · have e : (k % max 1 (cells.length : Int)).toNat = cells.length := by
            rw [List.length_append] at hj
            simp only [List.length_cons, List.length_nil] at hj
            omega
          rw [e, List.getElem?_append_right (Nat.le_refl _), Nat.sub_self] at hcell
          have : cell = 0 := by simpa using hcell.symm
          rw [this] at hbig
          exact absurd hbig (by decide)
      have hlen : (0 : Int) < (cells.length : Int) := by omega
      refine (src_c (K := K) (C := E.C_Trade) S2 rfl) H2 (Same.refl H2) _ fun v H3 e3 a3 => ?_
      obtain ⟨rfl, _⟩ := a3
      have S3 := S2.mono e3
      refine (ev_iC (K := K) (C := E.C_Trade) (d := .int (cell / b)) (ev_at (k := cell) rfl) (ev_at (k := b) rfl) ⟨by omega, by omega⟩ (fun _ => .int _)) H3 (Same.refl H3) _ fun v H4 e4 a4 => ?_
      rw [Td.int_of a4]
      have S4 := S3.mono e4
      refine ⟨.ref c, rfl, ?_⟩
      refine (ev_iC (K := K) (C := E.C_Trade) (d := .int (k % (cells.length : Int))) (ev_int1 (src_k S4 rfl)) (ev_d (ev_lenL (ev_lstAt rfl S4.2.1)) (by rw [iL_len])) hlen (fun _ => .int _)) H4 (Same.refl H4) _ fun v H5 e5 a5 => ?_
      rw [Td.int_of a5]
      have S5 := S4.mono e5
      have j0 := Int.emod_nonneg k (show (cells.length : Int) ≠ 0 by omega)
      have j1 := Int.emod_lt_of_pos k hlen
      refine ⟨c, _, _, (k % (cells.length : Int)).toNat, rfl, rfl, S5.2.1, ?_, ?_⟩
      · unfold ixN
        rw [List.length_map, if_pos j0, if_pos (by omega)]
      · have S6 : Src (upd H5 c (.lst ((cells.map V.int).set (k % (cells.length : Int)).toNat (.int (cell / b))))) p c st k (cells.set (k % (cells.length : Int)).toNat (cell / b)) := by
          refine ⟨by rw [upd_ne hpc]; exact S5.1, ?_, hpc, by rw [List.length_set]; exact hl⟩
          rw [upd_same, List.map_set]
        refine (ev_iC (K := K) (C := E.C_Trade) (d := .int (cell % b)) (ev_int1 (ev_at (k := cell) rfl)) (ev_at (k := b) rfl) (by omega) (fun _ => .int _)) _ (Same.refl _) _ fun v H7 e7 a7 => ?_
        rw [Td.int_of a7]
        refine q _ _ (Int.emod_nonneg _ (by omega)) (Int.emod_lt_of_pos _ (by omega)) ?_ (S6.mono e7).ct
        exact (((Fr.of (((e1.trans e2).trans e3).trans (e4.trans e5)) _).trans (Fr.updIn (by simp))).trans (Fr.of e7 _))
    · rw [if_neg (by simpa using hbig)]
      refine (ev_iC (K := K) (C := E.C_Trade) (ev_int1 (ev_addI (ev_addI (ev_iC (src_s S2 rfl) ev_int (cmulR ⟨by decide, by decide⟩) (fun _ => .int _)) (ev_iC (ev_at (k := cell) rfl) ev_int (cmulR ⟨by decide, by decide⟩) (fun _ => .int _))) ev_int)) ev_int (by decide) (fun _ => .int _)) H2 (Same.refl H2) _ fun v H3 e3 a3 => ?_
      rw [Td.int_of a3]
      have S3 := S2.mono e3
      generalize ((st * 48271 + cell * 69621 + 11) % 2147483647) = st'
      refine ⟨.ref p, rfl, p, _, 0, 0, rfl, rfl, S3.1, rfl, ?_⟩
      have S4 : Src (upd H3 p (.lst ([V.int st, .ref c, .int k].set 0 (.int st')))) p c st' k cells := ⟨upd_same, by rw [upd_ne (Ne.symm hpc)]; exact S3.2.1, hpc, hl⟩
      refine (ev_addI (K := K) (C := E.C_Trade) (src_k S4 rfl) (ev_int (k := 1))) _ (Same.refl _) _ fun v H5 e5 a5 => ?_
      rw [Td.int_of a5]
      have S5 := S4.mono e5
      refine ⟨.ref p, rfl, p, _, 2, 2, rfl, rfl, S5.1, rfl, ?_⟩
      have S6 : Src (upd H5 p (.lst ([V.int st', .ref c, .int k].set 2 (.int (k + 1))))) p c st' (k + 1) cells := ⟨upd_same, by rw [upd_ne (Ne.symm hpc)]; exact S5.2.1, hpc, hl⟩
      refine (ev_iC (K := K) (C := E.C_Trade) (ev_int1 (ev_iC (src_s S6 rfl) (ev_int (k := 7)) ⟨by decide, by decide⟩ (fun _ => .int _))) (ev_at (k := b) rfl) (by omega) (fun _ => .int _)) _ (Same.refl _) _ fun v H7 e7 a7 => ?_
      rw [Td.int_of a7]
      refine q _ _ (Int.emod_nonneg _ (by omega)) (Int.emod_lt_of_pos _ (by omega)) ?_ (S6.mono e7).ct
      exact (((((Fr.of ((e1.trans e2).trans e3) _).trans (Fr.updIn (by simp))).trans (Fr.of e5 _)).trans (Fr.updIn (by simp))).trans (Fr.of e7 _))
end
end K1
set_option maxRecDepth 10000000
namespace K1
open PySem PySem.Spec PyProof.Rows L2 Pt
local macro_rules
  | `(tactic| walk_at "sz") => `(tactic| first
    | omega
    | decide
    | (simp; omega)
    | (simp [iL, row, pairsD]; omega))
  | `(tactic| walk_at "ea") => `(tactic| first
    | (with_reducible exact ea_nil)
    | ((with_reducible apply ea_consL); (focus (walk_at "ev")); (focus (walk_at "ea")))
    | ((with_reducible apply ea_consS); (focus (walk_at "ev")); (focus (walk_at "ea")))
    | ((with_reducible apply ea_cons); (focus (walk_at "ev")); (focus (walk_at "ea")))
    | ((with_reducible apply ea_consN); (focus (walk_at "en")); (focus (walk_at "ea"))))
  | `(tactic| walk_at "ed") => `(tactic| first
    | (with_reducible exact ed_nil)
    | ((with_reducible apply ed_cons); (focus (walk_at "ev")); (focus (walk_at "ed"))))
  | `(tactic| walk_at "en") => `(tactic| first
    | ((with_reducible apply en_lst); (focus (walk_at "ed")); (focus (simp)))
    | ((with_reducible apply en_listT); (focus (walk_at "ev")))
    | ((with_reducible apply en_addL); (focus (walk_at "ev")); (focus (walk_at "en")); (focus (walk_at "sz")))
    | ((with_reducible apply en_addN); (focus (walk_at "en")); (focus (walk_at "en")); (focus (walk_at "sz")))
    | ((with_reducible apply en_slL); (focus (walk_at "ev")); (focus (walk_at "eo")); (focus (walk_at "eo"))))
  | `(tactic| walk_at "eo") => `(tactic| first
    | (with_reducible exact eo_none)
    | ((with_reducible apply eo_some); (focus (walk_at "ev"))))
  | `(tactic| walk_at "et") => `(tactic| first
    | (with_reducible exact et_yes)
    | ((with_reducible apply et_test); (focus (walk_at "ev")))
    | ((with_reducible apply et_B); (focus (walk_at "ev")))
    | ((with_reducible apply et_truB); (focus (walk_at "ev")))
    | ((with_reducible apply et_truT); (focus (walk_at "ev")))
    | ((with_reducible apply et_not); (focus (walk_at "et")))
    | ((with_reducible apply et_and); (focus (walk_at "et")); (focus (intro _; walk_at "et")))
    | ((with_reducible apply et_or); (focus (walk_at "et")); (focus (intro _; walk_at "et"))))
  | `(tactic| walk_at "var") => `(tactic| first
    | ((with_reducible apply ev_varD); (focus (assumption)); (focus (rfl)))
    | ((with_reducible apply ev_varL); (focus (assumption)); (focus (rfl)))
    | ((with_reducible apply ev_varS); (focus (assumption)); (focus (rfl)))
    | ((with_reducible apply ev_varT); (focus (assumption)); (focus (rfl)))
    | ((with_reducible apply ev_varH); (focus (assumption)); (focus (rfl)))
    | ((with_reducible apply ev_varZ); (focus (assumption)); (focus (rfl))))
  | `(tactic| walk_at "ev") => `(tactic| first
    | walk_at "var"
    | (with_reducible exact ev_int)
    | (with_reducible exact ev_bl)
    | (with_reducible exact ev_str)
    | (with_reducible exact ev_non)
    | ((with_reducible apply ev_letters); (focus (walk_at "ev")))
    | ((with_reducible apply ev_pairs); (focus (walk_at "ev")))
    | ((with_reducible apply ev_addI); (focus (walk_at "ev")); (focus (walk_at "ev")))
    | ((with_reducible apply ev_addT); (focus (walk_at "ev")); (focus (walk_at "ev")); (focus (walk_at "sz")))
    | ((with_reducible apply ev_i0); (focus (walk_at "ev")); (focus (walk_at "ev")); (focus (first | exact fun _ => .int _ | exact fun _ => .bl _)))
    | ((with_reducible apply ev_iC); (focus (walk_at "ev")); (focus (walk_at "ev")); (focus (first | assumption | walk_at "cond")); (focus (exact fun _ => .int _)))
    | ((with_reducible apply ev_chain); (focus (walk_at "ev")); (focus (walk_at "ev")); (focus (walk_at "ev")))
    | ((with_reducible apply ev_eqI); (focus (walk_at "ev")); (focus (walk_at "ev")))
    | ((with_reducible apply ev_neI); (focus (walk_at "ev")); (focus (walk_at "ev")))
    | ((with_reducible apply ev_eqR); (focus (walk_at "ev")); (focus (walk_at "ev")))
    | ((with_reducible apply ev_neR); (focus (walk_at "ev")); (focus (walk_at "ev")))
    | ((with_reducible apply ev_isN); (focus (walk_at "ev")))
    | ((with_reducible apply ev_notN); (focus (walk_at "ev")))
    | ((with_reducible apply ev_in2); (focus (walk_at "ev")); (focus (walk_at "ev")); (focus (walk_at "ev")))
    | ((with_reducible apply ev_inP); (focus (walk_at "ev")); (focus (walk_at "ev")))
    | ((with_reducible apply ev_tup); (focus (walk_at "ed")); (focus (simp)))
    | ((with_reducible apply ev_lenT); (focus (walk_at "ev")))
    | ((with_reducible apply ev_lenL); (focus (walk_at "ev")))
    | ((with_reducible apply ev_lenS); (focus (walk_at "ev")))
    | ((with_reducible apply ev_lenN); (focus (walk_at "en")))
    | ((with_reducible apply ev_max2); (focus (walk_at "ev")); (focus (walk_at "ev")))
    | ((with_reducible apply ev_min2); (focus (walk_at "ev")); (focus (walk_at "ev")))
    | ((with_reducible apply ev_int1); (focus (walk_at "ev")))
    | ((with_reducible apply ev_tupleL); (focus (walk_at "ev")))
    | ((with_reducible apply ev_tupleN); (focus (walk_at "en")))
    | ((with_reducible apply ev_countT); (focus (walk_at "ev")); (focus (walk_at "ev")))
    | ((with_reducible apply ev_andV); (focus (walk_at "ev")); (focus (intro _; walk_at "ev")))
    | ((with_reducible apply ev_orV); (focus (walk_at "ev")); (focus (intro _; walk_at "ev")))
    | ((with_reducible apply ev_notV); (focus (walk_at "ev"))))
section
variable {P : Program} {w : World} {K : PySem.W.Frag} {mg : Str → Option Value} {base : Heap}
abbrev A_law_pairs (as : List Ag) : Prop := ∃ n : Int, as = [.c (.d (.int n))] ∧ 1 ≤ n ∧ n ≤ 6
abbrev R_law_pairs (as : List Ag) (d : PyData) : Prop := ∃ (n : Int) (ps : List (Int × Int)), as = [.c (.d (.int n))] ∧ PairsOk n ps ∧ d = pairsD ps
def Upto (n a b : Int) (ps : List (Int × Int)) : Prop := (∀ p ∈ ps, 0 ≤ p.1 ∧ p.1 < p.2 ∧ p.2 < n) ∧ ps.Pairwise ltP ∧ ∀ p ∈ ps, ltP p (a, b)
theorem Upto.mono {n a b a' b' : Int} {ps : List (Int × Int)} (h : Upto n a b ps) (l : ltP (a, b) (a', b') ∨ (a, b) = (a', b')) : Upto n a' b' ps := ⟨h.1, h.2.1, fun p m => by
  rcases l with l | l
  · have := h.2.2 p m
    unfold ltP at this l ⊢
    simp only at this l ⊢
    omega
  · rw [← l]; exact h.2.2 p m⟩
theorem Upto.snoc {n a b : Int} {ps : List (Int × Int)} (h : Upto n a b ps) (h0 : 0 ≤ a) (h1 : a < b) (h2 : b < n) : Upto n a (b + 1) (ps ++ [(a, b)]) := by
  refine ⟨fun p m => ?_, List.pairwise_append.mpr ⟨h.2.1, List.pairwise_singleton _ _, fun p m q m' => ?_⟩, fun p m => ?_⟩
  · rcases List.mem_append.mp m with m | m
    · exact h.1 p m
    · rw [List.mem_singleton.mp m]; exact ⟨h0, h1, h2⟩
  · rw [List.mem_singleton.mp m']; exact h.2.2 p m
  · rcases List.mem_append.mp m with m | m
    · exact (h.mono (a' := a) (b' := b + 1) (.inl (.inr ⟨rfl, by show b < b + 1; omega⟩))).2.2 p m
    · rw [List.mem_singleton.mp m]; exact .inr ⟨rfl, by show b < b + 1; omega⟩
theorem ok__law_pairs (E : Nv K mg) : FnOk P w K mg base CX0 8 E.a__law_pairs E.d__law_pairs ["_law_h", "_law_letters"] (spDr K E.C_Trade A_law_pairs R_law_pairs) := by
  refine E.F__law_pairs.ok sc__law_pairs (fun vs H Q _ h => ?_) (fun cdv A outer s H vs Q _ hr h => ?_)
  · obtain ⟨p, c, ws, as, rfl, _, ha, ⟨_, rfl, _⟩, _⟩ := h
    exact congrArg (· + 1) ha.length
  · obtain ⟨p, c, ws, as, rfl, hs, ha, ⟨n, rfl, n1, n6⟩, q⟩ := h
    obtain ⟨v1, rfl, a1⟩ := ha.one
    refine ⟨_, (pss_cons (ps_par (i := 2) (j := 3) (by rfl) sc__law_pairs.nd rfl rfl (by decide) rfl rfl (pa_cons (pe_call (ok__law_next E) (hr.mono (by first | decide | omega)) (by rfl) E.m__law_next E.F__law_next.kp E.b__law_next .nil pass0 (pa_cons (pv 0) (pa_cons pe_int pa_nil))) (pa_cons (pe_lst pa_nil) pa_nil)) (by rfl))
      (pss_cons (ps_for PassesOwn.never rfl (pi_range1 (by rfl) E.n_range (pa_cons (pv 1) pa_nil)) (pg_name (i := 4) sc__law_pairs.nd rfl (.inl rfl))
      (pss_one (ps_for PassesOwn.never rfl (pi_range2 (by rfl) E.n_range (pa_cons (pe_op (op_addK K) (pv 4) pe_int) (pa_cons (pv 1) pa_nil))) (pg_name (i := 5) sc__law_pairs.nd rfl (.inl rfl))
      (pss_one (ps_if (PW.pt (pw_or (pt_cmpR (op_eqK K hr.units) (pv 2) pe_int (nomark _)) (pw_or1 (PW.pt (pw_and (pt_cmpR (op_lt) (pv 2) pe_int (nomark _)) (pw_and1 (pt_cmpR (op_eqK K hr.units) (pe_call (ok__law_next E) (hr.mono (by first | decide | omega)) (by rfl) E.m__law_next E.F__law_next.kp E.b__law_next .nil pass0 (pa_cons (pv 0) (pa_cons pe_int pa_nil))) pe_int (nomark _)))))))) (pss_one (ps_expr (pe_bm PySem.F.plainAttrs_list PySem.F.slot_list_append PySem.F.type_list_append mt_append (pv 3) (pa_cons (pe_tupF (pa_cons (pv 4) (pa_cons (pv 5) pa_nil))) pa_nil)))) pss_nil)))))
      (pss_one (ps_ret (pe_callTy (call_tupleK K) (by rfl) E.n_tuple (by decide +kernel) (pa_cons (pv 3) pa_nil)))))), ?_⟩
    have w : Wd K E.C_Trade [p, c] [] H H _ [.h p c, .d (.int n), .u, .u, .u, .u] := Wd.startH (N := N__law_pairs) (vs := [v1]) (cs := [.d (.int n)]) ⟨hs, a1, True.intro⟩ rfl (Nat.le_of_ble_eq_true rfl)
    refine q_parDr w rfl (by decide) (by decide) fun r l σ2 H2 r0 r1 w2' => ?_
    have w2 : Wd K E.C_Trade [p, c] [] H H2 σ2 [.h p c, .d (.int n), .d (.int r), .l l [], .u, .u] := w2'
    refine q_forR1 w2 (n := n) (by walk_at "ea") (by omega) (fun k σ H' => ∃ c4 c5 ps, Wd K E.C_Trade [p, c] [] H H' σ [.h p c, .d (.int n), .d (.int r), .l l (ps.map Pt.pairD), c4, c5] ∧ Upto n k 0 ps ∧ ps.length ≤ 6 * k) (fun H1 w1 => ⟨_, _, [], w1, ⟨fun p m => by simp at m, .nil, fun p m => by simp at m⟩, by simp⟩) ?_ ?_
    · rintro k σ H' hk ⟨c4, c5, ps, w3, hu, hl⟩
      have w4 : Wd K E.C_Trade [p, c] [] H H' _ [.h p c, .d (.int n), .d (.int r), .l l (ps.map Pt.pairD), .d (.int k), c5] := w3.set 4 (v := .int k) (.int _)
      refine s_forR2 w4 (lo := (k : Int) + 1) (n := n) (by walk_at "ea") (by omega) (fun i σ H' => ∃ c5 ps, Wd K E.C_Trade [p, c] [] H H' σ [.h p c, .d (.int n), .d (.int r), .l l (ps.map Pt.pairD), .d (.int k), c5] ∧ Upto n k ((k : Int) + 1 + i) ps ∧ ps.length ≤ 6 * k + i) (fun H1 w1 => ⟨_, ps, w1, hu.mono (.inl (.inr ⟨rfl, by show (0 : Int) < (k : Int) + 1 + ((0 : Nat) : Int); omega⟩)), by omega⟩) ?_ ?_
      · rintro i σ H' hi ⟨c5, ps, w5, hu, hl⟩
        have w6 : Wd K E.C_Trade [p, c] [] H H' _ [.h p c, .d (.int n), .d (.int r), .l l (ps.map Pt.pairD), .d (.int k), .d (.int ((k : Int) + 1 + i))] := w5.set 5 (v := .int ((k : Int) + 1 + i)) (.int _)
        have e1 : (k : Int) + 1 + ((i + 1 : Nat) : Int) = (k : Int) + 1 + (i : Int) + 1 := by omega
        refine s_ifD w6 (dt_or (dt_of fun H w => by walk_at "et") (dt_and (dt_of fun H w => by walk_at "et") (dt_eqN rfl (by decide) (by decide)))) (fun H7 w7 => ?_) (fun H7 w7 => ?_)
        · refine s_app w7 rfl (d := Pt.pairD ((k : Int), (k : Int) + 1 + i)) (ev_tup (ed_cons (ev_var w7 rfl) (ed_cons (ev_var w7 rfl) ed_nil))) (by rw [List.length_map]; omega) fun H8 w8 => ?_
          refine ⟨.d (.int ((k : Int) + 1 + i)), ps ++ [((k : Int), (k : Int) + 1 + i)], ?_, ?_, by simp; omega⟩
          · rw [List.map_append]
            exact w8
          · rw [e1]
            exact hu.snoc (by omega) (by omega) (by omega)
        · exact s_next ⟨_, ps, w7, by rw [e1]; exact hu.mono (.inl (.inr ⟨rfl, by show (k : Int) + 1 + i < (k : Int) + 1 + i + 1; omega⟩)), by omega⟩
      · rintro σ H' ⟨c5, ps, w5, hu, hl⟩
        exact ⟨_, _, ps, w5, hu.mono (.inl (.inl (by show (k : Int) < ((k + 1 : Nat) : Int); omega))), by omega⟩
    · rintro σ H' ⟨c4, c5, ps, w3, hu, hl⟩
      exact s_retDr (i := 0) w3 rfl q (ev_tupleL (ev_var w3 rfl)) ⟨n, ps, rfl, ⟨hu.1, hu.2.1, by omega⟩, rfl⟩
theorem swapAt_perm {l : List Int} {k : Nat} (h : k + 1 < l.length) : (swapAt l k).Perm l := by
  have e : l = l.take k ++ (l[k] :: l[k + 1] :: l.drop (k + 2)) := by
    rw [← List.drop_eq_getElem_cons h, ← List.drop_eq_getElem_cons (by omega), List.take_append_drop]
  have e1 : l.getD (k + 1) 0 = l[k + 1] := by rw [List.getD_eq_getElem?_getD, List.getElem?_eq_getElem h]; rfl
  have e2 : l.getD k 0 = l[k] := by rw [List.getD_eq_getElem?_getD, List.getElem?_eq_getElem (by omega)]; rfl
  unfold swapAt
  rw [e1, e2, List.append_assoc]
  refine List.Perm.trans ?_ (List.Perm.of_eq e.symm)
  exact List.Perm.append_left _ (List.Perm.swap _ _ _)
end
end K1
set_option maxRecDepth 10000000
namespace K1
open Pt
theorem idx_ne {x y : Int} (l : List Int) (h : y ≠ x) : (y :: l).idxOf x = l.idxOf x + 1 := by
  rw [List.idxOf_cons]
  have z : (y == x) = false := by simpa using h
  rw [z]
  rfl
theorem okAt_parts {ps : List (Int × Int)} {l : List Int} {k : Nat} (h : okAt ps l k) : ∃ u v a b, l = u ++ a :: b :: v ∧ swapAt l k = u ++ b :: a :: v ∧ u.length = k ∧ may ps a b = true := by
  have hk := okAt_lt h
  obtain ⟨a, b, ha, hb, hm⟩ := h
  have ea : l[k] = a := by rw [List.getElem?_eq_getElem (by omega)] at ha; exact Option.some.inj ha
  have eb : l[k + 1] = b := by rw [List.getElem?_eq_getElem hk] at hb; exact Option.some.inj hb
  refine ⟨l.take k, l.drop (k + 2), a, b, ?_, ?_, by rw [List.length_take]; omega, hm⟩
  · rw [← ea, ← eb, ← List.drop_eq_getElem_cons hk, ← List.drop_eq_getElem_cons (by omega), List.take_append_drop]
  · unfold swapAt
    rw [List.getD_eq_getElem?_getD, hb, List.getD_eq_getElem?_getD, ha, List.append_assoc]
    rfl
theorem okAt_of {ps : List (Int × Int)} {u v : List Int} {a b : Int} (h : may ps a b = true) : okAt ps (u ++ a :: b :: v) u.length ∧ swapAt (u ++ a :: b :: v) u.length = u ++ b :: a :: v := by
  have ha : (u ++ a :: b :: v)[u.length]? = some a := by rw [List.getElem?_append_right (Nat.le_refl _), Nat.sub_self]; rfl
  have hb : (u ++ a :: b :: v)[u.length + 1]? = some b := by rw [List.getElem?_append_right (by omega), show u.length + 1 - u.length = 1 by omega]; rfl
  refine ⟨⟨a, b, ha, hb, h⟩, ?_⟩
  unfold swapAt
  rw [List.getD_eq_getElem?_getD, hb, List.getD_eq_getElem?_getD, ha, List.take_left, List.append_assoc]
  congr 1
  have e : (u ++ a :: b :: v).drop (u.length + 2) = v := by
    rw [show u ++ a :: b :: v = (u ++ [a, b]) ++ v by simp, List.drop_append_of_le_length (by simp)]
    simp
  rw [e]
  rfl
theorem may_ne {n : Int} {ps : List (Int × Int)} (h : PairsOk n ps) {a b : Int} (m : may ps a b = true) : a ≠ b := fun e => by
  subst e
  have := (h.1 _ (of_decide_eq_true m)).2.1
  simp only at this
  omega
theorem may_comm (ps : List (Int × Int)) (a b : Int) : may ps a b = may ps b a := by
  unfold may
  rw [Int.min_comm, Int.max_comm]
theorem Walks.app {ps : List (Int × Int)} {l ks m : List Int} (h : Walks ps l ks m) : ∀ {js r : List Int}, Walks ps m js r → Walks ps l (ks ++ js) r := by
  induction h with
  | nil => intro js r g; exact g
  | cons hk _ ih => intro js r g; exact .cons hk (ih g)
theorem Walks.perm {ps : List (Int × Int)} {l ks m : List Int} (h : Walks ps l ks m) : l.Perm m := by
  induction h with
  | nil => exact .refl _
  | cons hk _ ih => exact (swapAt_perm (okAt_lt hk)).symm.trans ih
theorem only_app (u v : List Int) (a b : Int) : onlyL (u ++ v) a b = onlyL u a b ++ onlyL v a b := List.filter_append ..
theorem only_in {x a b : Int} (h : x = a ∨ x = b) (v : List Int) : onlyL (x :: v) a b = x :: onlyL v a b := List.filter_cons_of_pos (decide_eq_true h)
theorem only_out {x a b : Int} (h : ¬ (x = a ∨ x = b)) (v : List Int) : onlyL (x :: v) a b = onlyL v a b := List.filter_cons_of_neg (by simpa using h)
theorem Walks.only {n : Int} {ps : List (Int × Int)} (hp : PairsOk n ps) {l ks m : List Int} (h : Walks ps l ks m) {a b : Int} (hm : may ps a b = false) : onlyL l a b = onlyL m a b := by
  induction h with
  | nil => rfl
  | @cons l k ks m hk _ ih =>
    rw [← ih]
    obtain ⟨u, v, x, y, e1, e2, _, hxy⟩ := okAt_parts hk
    rw [e1, ← e1, e2, e1, only_app, only_app]
    congr 1
    have ne := may_ne hp hxy
    by_cases hx : x = a ∨ x = b
    · by_cases hy : y = a ∨ y = b
      · exfalso
        have : may ps a b = true := by
          rcases hx with rfl | rfl <;> rcases hy with rfl | rfl
          · exact absurd rfl ne
          · exact hxy
          · rw [may_comm]; exact hxy
          · exact absurd rfl ne
        rw [hm] at this
        cases this
      · rw [only_in hx, only_out hy, only_out hy, only_in hx]
    · rw [only_out hx]
      by_cases hy : y = a ∨ y = b
      · rw [only_in hy, only_in hy, only_out hx]
      · rw [only_out hy, only_out hy, only_out hx]
def Free (ps : List (Int × Int)) (l m : List Int) : Prop := ∀ a b, a ≠ b → may ps a b = false → onlyL l a b = onlyL m a b
theorem split_at {r : List Int} {x : Int} (h : x ∈ r) : ∃ u v, r = u ++ x :: v ∧ x ∉ u ∧ r.idxOf x = u.length ∧ r.erase x = u ++ v := by
  induction r with
  | nil => cases h
  | cons y r ih =>
    by_cases e : y = x
    · subst e
      exact ⟨[], r, rfl, by simp, by simp, by simp⟩
    · obtain ⟨u, v, h1, h2, h3, h4⟩ := ih (by
        rcases List.mem_cons.mp h with z | z
        · exact absurd z.symm e
        · exact z)
      refine ⟨y :: u, v, by rw [h1]; rfl, by simp [h2, Ne.symm e], by rw [idx_ne _ e, h3, List.length_cons], by rw [List.erase_cons_tail (by simpa using e), h4]; rfl⟩
theorem move {ps : List (Int × Int)} {x : Int} {pre : List Int} : ∀ (u v : List Int), (∀ y ∈ u, may ps y x = true) → Walks ps (pre ++ (u ++ x :: v)) ((List.range u.length).map fun i : Nat => ((pre.length + u.length : Nat) : Int) - 1 - i) (pre ++ (x :: (u ++ v))) := by
  intro u
  have key : ∀ (n : Nat) (u v : List Int), u.length = n → (∀ y ∈ u, may ps y x = true) → Walks ps (pre ++ (u ++ x :: v)) ((List.range u.length).map fun i : Nat => ((pre.length + u.length : Nat) : Int) - 1 - i) (pre ++ (x :: (u ++ v))) := by
    intro n
    induction n with
    | zero =>
      intro u v hl _
      have e : u = [] := List.length_eq_zero_iff.mp hl
      subst e
      exact .nil
    | succ n ih =>
      intro u v hl hm
      obtain ⟨u', y, rfl⟩ : ∃ u' y, u = u' ++ [y] := by
        rcases List.eq_nil_or_concat u with rfl | ⟨u', y, h⟩
        · cases hl
        · exact ⟨u', y, by rw [h]; simp⟩
      have hl' : u'.length = n := by simpa using hl
      have e0 : pre ++ ((u' ++ [y]) ++ x :: v) = (pre ++ u') ++ y :: x :: v := by simp
      obtain ⟨h1, h2⟩ := okAt_of (ps := ps) (u := pre ++ u') (v := v) (a := y) (b := x) (hm y (by simp))
      have w := ih u' (y :: v) hl' (fun z m => hm z (by simp [m]))
      have e1 : pre ++ (u' ++ x :: y :: v) = (pre ++ u') ++ x :: y :: v := by simp
      have e2 : pre ++ (x :: (u' ++ y :: v)) = pre ++ (x :: ((u' ++ [y]) ++ v)) := by simp
      rw [e1, ← h2, e2] at w
      rw [e0]
      have c := Walks.cons h1 w
      have e3 : ((pre ++ u').length : Int) :: ((List.range u'.length).map fun i : Nat => ((pre.length + u'.length : Nat) : Int) - 1 - i) = (List.range (u' ++ [y]).length).map fun i : Nat => ((pre.length + (u' ++ [y]).length : Nat) : Int) - 1 - i := by
        rw [List.length_append (as := u'), List.length_append (as := pre)]
        show _ = List.map _ (List.range (u'.length + 1))
        rw [List.range_succ_eq_map, List.map_cons, List.map_map]
        congr 1
        · simp
          omega
        · refine List.map_congr_left fun i _ => ?_
          show _ = (((pre.length + (u'.length + 1) : Nat) : Int)) - 1 - ((i + 1 : Nat) : Int)
          omega
      rw [e3] at c
      exact c
  exact fun v h => key u.length u v rfl h
theorem lead_walks {ps : List (Int × Int)} : ∀ (ms r pre : List Int), r.Perm ms → Free ps r ms → Walks ps (pre ++ r) (leadGo pre.length r ms) (pre ++ ms)
  | [], r, pre, hp, _ => by
    have e : r = [] := List.Perm.eq_nil hp
    subst e
    exact .nil
  | x :: ms, r, pre, hp, hf => by
    obtain ⟨u, v, rfl, hx, hi, he⟩ := split_at (hp.mem_iff.mpr List.mem_cons_self)
    have hm : ∀ y ∈ u, may ps y x = true := fun y my => by
      cases q : may ps y x with
      | true => rfl
      | false =>
        exfalso
        have ne : y ≠ x := fun z => hx (z ▸ my)
        have e := hf y x ne q
        rw [only_app, only_in (.inr rfl), only_in (.inr rfl)] at e
        have hy : y ∈ onlyL u y x := List.mem_filter.mpr ⟨my, by simp⟩
        cases z : onlyL u y x with
        | nil => rw [z] at hy; cases hy
        | cons w t =>
          rw [z] at e
          have e1 : w = x := by simpa using (List.cons.inj e).1
          have : w ∈ u := (List.mem_filter.mp (show w ∈ onlyL u y x by rw [z]; exact List.mem_cons_self)).1
          exact hx (e1 ▸ this)
    have hp' : (u ++ v).Perm ms := by
      have := hp.erase x
      rw [he, List.erase_cons_head] at this
      exact this
    have hf' : Free ps (u ++ v) ms := fun a b ne q => by
      have e := hf a b ne q
      rw [only_app] at e
      rw [only_app]
      by_cases hxab : x = a ∨ x = b
      · rw [only_in hxab, only_in hxab] at e
        cases z : onlyL u a b with
        | nil => rw [z] at e; simpa using e
        | cons w t =>
          rw [z] at e
          have e1 : w = x := by simpa using (List.cons.inj e).1
          have : w ∈ u := (List.mem_filter.mp (show w ∈ onlyL u a b by rw [z]; exact List.mem_cons_self)).1
          exact absurd (e1 ▸ this) hx
      · rw [only_out hxab, only_out hxab] at e
        exact e
    have w1 := move (pre := pre) u v hm
    have w2 := lead_walks ms (u ++ v) (pre ++ [x]) hp' hf'
    have e1 : (pre ++ [x]) ++ (u ++ v) = pre ++ (x :: (u ++ v)) := by simp
    have e2 : (pre ++ [x]) ++ ms = pre ++ (x :: ms) := by simp
    have e3 : (pre ++ [x]).length = pre.length + 1 := by simp
    rw [e1, e2, e3] at w2
    have c := w1.app w2
    unfold leadGo
    rw [hi, he]
    exact c
end K1
set_option maxRecDepth 10000000
namespace K1
open Pt
def rowIn (n : Int) (l : List Int) : Prop := ∀ x ∈ l, 0 ≤ x ∧ x < n
end K1
set_option maxRecDepth 10000000
namespace K1
open PySem PySem.Spec PyProof.Rows L2 Pt
local macro_rules
  | `(tactic| walk_at "sz") => `(tactic| first
    | omega
    | decide
    | (simp; omega)
    | (simp [iL, row, pairsD]; omega))
  | `(tactic| walk_at "ea") => `(tactic| first
    | (with_reducible exact ea_nil)
    | ((with_reducible apply ea_consL); (focus (walk_at "ev")); (focus (walk_at "ea")))
    | ((with_reducible apply ea_consS); (focus (walk_at "ev")); (focus (walk_at "ea")))
    | ((with_reducible apply ea_cons); (focus (walk_at "ev")); (focus (walk_at "ea")))
    | ((with_reducible apply ea_consN); (focus (walk_at "en")); (focus (walk_at "ea"))))
  | `(tactic| walk_at "ed") => `(tactic| first
    | (with_reducible exact ed_nil)
    | ((with_reducible apply ed_cons); (focus (walk_at "ev")); (focus (walk_at "ed"))))
  | `(tactic| walk_at "en") => `(tactic| first
    | ((with_reducible apply en_lst); (focus (walk_at "ed")); (focus (simp)))
    | ((with_reducible apply en_listT); (focus (walk_at "ev")))
    | ((with_reducible apply en_addL); (focus (walk_at "ev")); (focus (walk_at "en")); (focus (walk_at "sz")))
    | ((with_reducible apply en_addN); (focus (walk_at "en")); (focus (walk_at "en")); (focus (walk_at "sz")))
    | ((with_reducible apply en_slL); (focus (walk_at "ev")); (focus (walk_at "eo")); (focus (walk_at "eo"))))
  | `(tactic| walk_at "eo") => `(tactic| first
    | (with_reducible exact eo_none)
    | ((with_reducible apply eo_some); (focus (walk_at "ev"))))
  | `(tactic| walk_at "et") => `(tactic| first
    | (with_reducible exact et_yes)
    | ((with_reducible apply et_test); (focus (walk_at "ev")))
    | ((with_reducible apply et_B); (focus (walk_at "ev")))
    | ((with_reducible apply et_truB); (focus (walk_at "ev")))
    | ((with_reducible apply et_truT); (focus (walk_at "ev")))
    | ((with_reducible apply et_not); (focus (walk_at "et")))
    | ((with_reducible apply et_and); (focus (walk_at "et")); (focus (intro _; walk_at "et")))
    | ((with_reducible apply et_or); (focus (walk_at "et")); (focus (intro _; walk_at "et"))))
  | `(tactic| walk_at "var") => `(tactic| first
    | ((with_reducible apply ev_varD); (focus (assumption)); (focus (rfl)))
    | ((with_reducible apply ev_varL); (focus (assumption)); (focus (rfl)))
    | ((with_reducible apply ev_varS); (focus (assumption)); (focus (rfl)))
    | ((with_reducible apply ev_varT); (focus (assumption)); (focus (rfl)))
    | ((with_reducible apply ev_varH); (focus (assumption)); (focus (rfl)))
    | ((with_reducible apply ev_varZ); (focus (assumption)); (focus (rfl))))
  | `(tactic| walk_at "ev") => `(tactic| first
    | walk_at "var"
    | (with_reducible exact ev_int)
    | (with_reducible exact ev_bl)
    | (with_reducible exact ev_str)
    | (with_reducible exact ev_non)
    | ((with_reducible apply ev_letters); (focus (walk_at "ev")))
    | ((with_reducible apply ev_pairs); (focus (walk_at "ev")))
    | ((with_reducible apply ev_addI); (focus (walk_at "ev")); (focus (walk_at "ev")))
    | ((with_reducible apply ev_addT); (focus (walk_at "ev")); (focus (walk_at "ev")); (focus (walk_at "sz")))
    | ((with_reducible apply ev_i0); (focus (walk_at "ev")); (focus (walk_at "ev")); (focus (first | exact fun _ => .int _ | exact fun _ => .bl _)))
    | ((with_reducible apply ev_iC); (focus (walk_at "ev")); (focus (walk_at "ev")); (focus (first | assumption | walk_at "cond")); (focus (exact fun _ => .int _)))
    | ((with_reducible apply ev_chain); (focus (walk_at "ev")); (focus (walk_at "ev")); (focus (walk_at "ev")))
    | ((with_reducible apply ev_eqI); (focus (walk_at "ev")); (focus (walk_at "ev")))
    | ((with_reducible apply ev_neI); (focus (walk_at "ev")); (focus (walk_at "ev")))
    | ((with_reducible apply ev_eqR); (focus (walk_at "ev")); (focus (walk_at "ev")))
    | ((with_reducible apply ev_neR); (focus (walk_at "ev")); (focus (walk_at "ev")))
    | ((with_reducible apply ev_isN); (focus (walk_at "ev")))
    | ((with_reducible apply ev_notN); (focus (walk_at "ev")))
    | ((with_reducible apply ev_in2); (focus (walk_at "ev")); (focus (walk_at "ev")); (focus (walk_at "ev")))
    | ((with_reducible apply ev_inP); (focus (walk_at "ev")); (focus (walk_at "ev")))
    | ((with_reducible apply ev_tup); (focus (walk_at "ed")); (focus (simp)))
    | ((with_reducible apply ev_lenT); (focus (walk_at "ev")))
    | ((with_reducible apply ev_lenL); (focus (walk_at "ev")))
    | ((with_reducible apply ev_lenS); (focus (walk_at "ev")))
    | ((with_reducible apply ev_lenN); (focus (walk_at "en")))
    | ((with_reducible apply ev_max2); (focus (walk_at "ev")); (focus (walk_at "ev")))
    | ((with_reducible apply ev_min2); (focus (walk_at "ev")); (focus (walk_at "ev")))
    | ((with_reducible apply ev_int1); (focus (walk_at "ev")))
    | ((with_reducible apply ev_tupleL); (focus (walk_at "ev")))
    | ((with_reducible apply ev_tupleN); (focus (walk_at "en")))
    | ((with_reducible apply ev_countT); (focus (walk_at "ev")); (focus (walk_at "ev")))
    | ((with_reducible apply ev_andV); (focus (walk_at "ev")); (focus (intro _; walk_at "ev")))
    | ((with_reducible apply ev_orV); (focus (walk_at "ev")); (focus (intro _; walk_at "ev")))
    | ((with_reducible apply ev_notV); (focus (walk_at "ev"))))
section
variable {P : Program} {w : World} {K : PySem.W.Frag} {mg : Str → Option Value} {base : Heap}
end
end K1
set_option maxRecDepth 10000000
namespace K1
open PySem PySem.Spec PyProof.Rows L2 Pt
local macro_rules
  | `(tactic| walk_at "sz") => `(tactic| first
    | omega
    | decide
    | (simp; omega)
    | (simp [iL, row, pairsD]; omega))
  | `(tactic| walk_at "ea") => `(tactic| first
    | (with_reducible exact ea_nil)
    | ((with_reducible apply ea_consL); (focus (walk_at "ev")); (focus (walk_at "ea")))
    | ((with_reducible apply ea_consS); (focus (walk_at "ev")); (focus (walk_at "ea")))
    | ((with_reducible apply ea_cons); (focus (walk_at "ev")); (focus (walk_at "ea")))
    | ((with_reducible apply ea_consN); (focus (walk_at "en")); (focus (walk_at "ea"))))
  | `(tactic| walk_at "ed") => `(tactic| first
    | (with_reducible exact ed_nil)
    | ((with_reducible apply ed_cons); (focus (walk_at "ev")); (focus (walk_at "ed"))))
  | `(tactic| walk_at "en") => `(tactic| first
    | ((with_reducible apply en_lst); (focus (walk_at "ed")); (focus (simp)))
    | ((with_reducible apply en_listT); (focus (walk_at "ev")))
    | ((with_reducible apply en_addL); (focus (walk_at "ev")); (focus (walk_at "en")); (focus (walk_at "sz")))
    | ((with_reducible apply en_addN); (focus (walk_at "en")); (focus (walk_at "en")); (focus (walk_at "sz")))
    | ((with_reducible apply en_slL); (focus (walk_at "ev")); (focus (walk_at "eo")); (focus (walk_at "eo"))))
  | `(tactic| walk_at "eo") => `(tactic| first
    | (with_reducible exact eo_none)
    | ((with_reducible apply eo_some); (focus (walk_at "ev"))))
  | `(tactic| walk_at "et") => `(tactic| first
    | (with_reducible exact et_yes)
    | ((with_reducible apply et_test); (focus (walk_at "ev")))
    | ((with_reducible apply et_B); (focus (walk_at "ev")))
    | ((with_reducible apply et_truB); (focus (walk_at "ev")))
    | ((with_reducible apply et_truT); (focus (walk_at "ev")))
    | ((with_reducible apply et_not); (focus (walk_at "et")))
    | ((with_reducible apply et_and); (focus (walk_at "et")); (focus (intro _; walk_at "et")))
    | ((with_reducible apply et_or); (focus (walk_at "et")); (focus (intro _; walk_at "et"))))
  | `(tactic| walk_at "var") => `(tactic| first
    | ((with_reducible apply ev_varD); (focus (assumption)); (focus (rfl)))
    | ((with_reducible apply ev_varL); (focus (assumption)); (focus (rfl)))
    | ((with_reducible apply ev_varS); (focus (assumption)); (focus (rfl)))
    | ((with_reducible apply ev_varT); (focus (assumption)); (focus (rfl)))
    | ((with_reducible apply ev_varH); (focus (assumption)); (focus (rfl)))
    | ((with_reducible apply ev_varZ); (focus (assumption)); (focus (rfl))))
  | `(tactic| walk_at "ev") => `(tactic| first
    | walk_at "var"
    | (with_reducible exact ev_int)
    | (with_reducible exact ev_bl)
    | (with_reducible exact ev_str)
    | (with_reducible exact ev_non)
    | ((with_reducible apply ev_letters); (focus (walk_at "ev")))
    | ((with_reducible apply ev_pairs); (focus (walk_at "ev")))
    | ((with_reducible apply ev_addI); (focus (walk_at "ev")); (focus (walk_at "ev")))
    | ((with_reducible apply ev_addT); (focus (walk_at "ev")); (focus (walk_at "ev")); (focus (walk_at "sz")))
    | ((with_reducible apply ev_i0); (focus (walk_at "ev")); (focus (walk_at "ev")); (focus (first | exact fun _ => .int _ | exact fun _ => .bl _)))
    | ((with_reducible apply ev_iC); (focus (walk_at "ev")); (focus (walk_at "ev")); (focus (first | assumption | walk_at "cond")); (focus (exact fun _ => .int _)))
    | ((with_reducible apply ev_chain); (focus (walk_at "ev")); (focus (walk_at "ev")); (focus (walk_at "ev")))
    | ((with_reducible apply ev_eqI); (focus (walk_at "ev")); (focus (walk_at "ev")))
    | ((with_reducible apply ev_neI); (focus (walk_at "ev")); (focus (walk_at "ev")))
    | ((with_reducible apply ev_eqR); (focus (walk_at "ev")); (focus (walk_at "ev")))
    | ((with_reducible apply ev_neR); (focus (walk_at "ev")); (focus (walk_at "ev")))
    | ((with_reducible apply ev_isN); (focus (walk_at "ev")))
    | ((with_reducible apply ev_notN); (focus (walk_at "ev")))
    | ((with_reducible apply ev_in2); (focus (walk_at "ev")); (focus (walk_at "ev")); (focus (walk_at "ev")))
    | ((with_reducible apply ev_inP); (focus (walk_at "ev")); (focus (walk_at "ev")))
    | ((with_reducible apply ev_tup); (focus (walk_at "ed")); (focus (simp)))
    | ((with_reducible apply ev_lenT); (focus (walk_at "ev")))
    | ((with_reducible apply ev_lenL); (focus (walk_at "ev")))
    | ((with_reducible apply ev_lenS); (focus (walk_at "ev")))
    | ((with_reducible apply ev_lenN); (focus (walk_at "en")))
    | ((with_reducible apply ev_max2); (focus (walk_at "ev")); (focus (walk_at "ev")))
    | ((with_reducible apply ev_min2); (focus (walk_at "ev")); (focus (walk_at "ev")))
    | ((with_reducible apply ev_int1); (focus (walk_at "ev")))
    | ((with_reducible apply ev_tupleL); (focus (walk_at "ev")))
    | ((with_reducible apply ev_tupleN); (focus (walk_at "en")))
    | ((with_reducible apply ev_countT); (focus (walk_at "ev")); (focus (walk_at "ev")))
    | ((with_reducible apply ev_andV); (focus (walk_at "ev")); (focus (intro _; walk_at "ev")))
    | ((with_reducible apply ev_orV); (focus (walk_at "ev")); (focus (intro _; walk_at "ev")))
    | ((with_reducible apply ev_notV); (focus (walk_at "ev"))))
section
variable {P : Program} {w : World} {K : PySem.W.Frag} {mg : Str → Option Value} {base : Heap}
def barN (ps : List (Int × Int)) (a : Int) : Nat → Nat
  | 0 => 0
  | k + 1 => if may ps a k = true then barN ps a k else barN ps a k ||| 2 ^ k
theorem barN_bit (ps : List (Int × Int)) (a : Int) : ∀ k j : Nat, (barN ps a k).testBit j = (decide (j < k) && !may ps a j)
  | 0, j => by simp [barN]
  | k + 1, j => by
    unfold barN
    by_cases h : may ps a k = true
    · rw [if_pos h, barN_bit ps a k j]
      by_cases e : j = k
      · subst e; simp [h]
      · rw [show decide (j < k + 1) = decide (j < k) by congr 1; simp; omega]
    · rw [if_neg h, Nat.testBit_or, barN_bit ps a k j, Nat.testBit_two_pow]
      by_cases e : j = k
      · subst e; simp [h]
      · rw [show decide (j < k + 1) = decide (j < k) by congr 1; simp; omega, decide_eq_false (p := k = j) (fun z => e z.symm), Bool.or_false]
def barsL (n : Int) (ps : List (Int × Int)) : List Int := (List.range n.toNat).map fun a : Nat => ((barN ps a n.toNat : Nat) : Int)
theorem bitOr_nat (a b : Nat) : Builtin.bitOr (a : Int) (b : Int) = ((a ||| b : Nat) : Int) := by
  rw [Bits.bitOr_pp (Int.natCast_nonneg a) (Int.natCast_nonneg b)]
  simp
abbrev A_bars_of (as : List Ag) (ds : List PyData) : Prop := ∃ (n : Int) (ps : List (Int × Int)), 0 ≤ n ∧ n ≤ 6 ∧ as = [.c (.t n ps)] ∧ ds = iL (barsL n ps)
theorem ok_bars_of (E : Nv K mg) : FnOk P w K mg base CX0 12 E.a_bars_of E.d_bars_of ["trade"] (spN K E.C_Trade A_bars_of) := by
  refine E.F_bars_of.ok sc_bars_of (fun vs H Q _ h => ?_) (fun cdv A outer s H vs Q _ hr h => ?_)
  · obtain ⟨as, d, ha, ⟨_, _, _, _, rfl, _⟩, _⟩ := h
    exact ha.length
  · obtain ⟨as, d, ha, ⟨n, ps, h0, h6, rfl, rfl⟩, q⟩ := h
    obtain ⟨v1, rfl, a1⟩ := ha.one
    refine ⟨_, (pss_cons (ps_set (i := 1) sc_bars_of.nd rfl (.inl rfl) (pe_lst pa_nil))
      (pss_cons (ps_for PassesOwn.never rfl (pi_range1 (by rfl) E.n_range (pa_cons (pe_prop (pv 0) E.cl E.p_letters (ok_Trade_letters E) (hr.mono (by first | decide | omega)) E.b_Trade_letters .nil pass0 rfl) pa_nil)) (pg_name (i := 2) sc_bars_of.nd rfl (.inl rfl))
      (pss_cons (ps_set (i := 3) sc_bars_of.nd rfl (.inl rfl) pe_int)
      (pss_cons (ps_for PassesOwn.never rfl (pi_range1 (by rfl) E.n_range (pa_cons (pe_prop (pv 0) E.cl E.p_letters (ok_Trade_letters E) (hr.mono (by first | decide | omega)) E.b_Trade_letters .nil pass0 rfl) pa_nil)) (pg_name (i := 4) sc_bars_of.nd rfl (.inl rfl))
      (pss_one (ps_if (pt_not (pt_truK K (pe_call (ok_may_change E) (hr.mono (by first | decide | omega)) (by rfl) E.m_may_change E.F_may_change.kp E.b_may_change .nil pass0 (pa_cons (pv 0) (pa_cons (pv 2) (pa_cons (pv 4) pa_nil)))) (fun _ => rfl))) (pss_one (ps_set (i := 3) sc_bars_of.nd rfl (.inl rfl) (pe_op op_or (pv 3) (pe_op op_shl pe_int (pv 4))))) pss_nil)))
      (pss_one (ps_expr (pe_bm PySem.F.plainAttrs_list PySem.F.slot_list_append PySem.F.type_list_append mt_append (pv 1) (pa_cons (pv 3) pa_nil)))))))
      (pss_one (ps_ret (pv 1))))), ?_⟩
    have w : Wd K E.C_Trade [] [] H H _ [.t n ps, .u, .u, .u, .u] := Wd.start1 (N := N_bars_of) a1
    refine q_asgN w (en_lst ed_nil) fun p σ1 H1 hp1 w1 => ?_
    refine q_forR1 w1 (n := n) (by walk_at "ea") (by omega) (fun k σ H' => ∃ c2 c3 c4, Wd K E.C_Trade [] [] H H' σ [.t n ps, .l p (iL ((barsL n ps).take k)), c2, c3, c4]) (fun H1 w1 => ⟨_, _, _, w1⟩) ?_ ?_
    · rintro k σ H' hk ⟨c2, c3, c4, w2⟩
      have w3 : Wd K E.C_Trade [] [] H H' _ [.t n ps, .l p (iL ((barsL n ps).take k)), .d (.int k), c3, c4] := w2.set 2 (v := .int k) (c := .d (.int k)) (Td.int _)
      refine q_asgD w3 ev_int fun σ4 H4 w4 => ?_
      refine q_forR1 w4 (n := n) (by walk_at "ea") (by omega) (fun i σ H' => ∃ c4, Wd K E.C_Trade [] [] H H' σ [.t n ps, .l p (iL ((barsL n ps).take k)), .d (.int k), .d (.int (barN ps k i : Nat)), c4]) (fun H1 w1 => ⟨_, w1⟩) ?_ ?_
      · rintro i σ H' hi ⟨c4, w5⟩
        have w6 : Wd K E.C_Trade [] [] H H' _ [.t n ps, .l p (iL ((barsL n ps).take k)), .d (.int k), .d (.int (barN ps k i : Nat)), .d (.int i)] := w5.set 4 (v := .int i) (c := .d (.int i)) (Td.int _)
        refine s_if w6 (b := !may ps k i) (et_not (et_truB (ev_call (by walk_at "ea") ⟨_, _, _, _, rfl, rfl⟩))) (fun e H7 w7 => ?_) (fun e H7 w7 => ?_)
        · have e' : ¬ may ps k i = true := by simpa using e
          refine s_asgD w7 (d := .int (barN ps k (i + 1) : Nat)) (ev_d (ev_i0 (ev_var w7 rfl) (ev_iC (d := .int (1 * 2 ^ (i : Int).toNat)) ev_int (ev_var w7 rfl) ⟨by omega, by omega, by decide⟩ (fun _ => .int _)) (fun _ => .int _)) ?_) fun σ8 H8 w8 => ⟨_, w8⟩
          rw [Int.toNat_natCast, Int.one_mul, show ((2 : Int) ^ i) = ((2 ^ i : Nat) : Int) by simp, bitOr_nat]
          rw [show barN ps k (i + 1) = barN ps k i ||| 2 ^ i from if_neg e']
        · have e' : may ps k i = true := by simpa using e
          refine s_next ⟨.d (.int i), ?_⟩
          rw [show barN ps k (i + 1) = barN ps k i from if_pos e']
          exact w7
      · rintro σ H' ⟨c4, w5⟩
        refine s_app w5 rfl (ev_var w5 rfl) (by rw [iL_len, List.length_take]; omega) fun H8 w8 => ⟨.d (.int k), .d (.int (barN ps k n.toNat : Nat)), c4, ?_⟩
        have hk' : k < n.toNat := by omega
        have e0 : (barsL n ps)[k]? = some ((barN ps k n.toNat : Nat) : Int) := by
          unfold barsL
          rw [List.getElem?_map, List.getElem?_range hk']
          rfl
        rw [List.take_add_one, e0, iL_app]
        exact w8
    · rintro σ H' ⟨c2, c3, c4, w2⟩
      have e : (barsL n ps).take n.toNat = barsL n ps := List.take_of_length_le (by unfold barsL; rw [List.length_map, List.length_range]; exact Nat.le_refl _)
      rw [e] at w2
      exact s_retLQ w2 q rfl
def canFirst (ps : List (Int × Int)) (l : List Int) (p : Nat) : Bool := (l.take p).all fun x => may ps x (l.getD p 0)
def firstsL (ps : List (Int × Int)) (l : List Int) : List (Int × Int) := ((List.range l.length).filter (canFirst ps l)).map fun p : Nat => (l.getD p 0, (p : Int))
def barred (n : Int) (ps : List (Int × Int)) : List Int → Nat
  | [] => 0
  | x :: r => barN ps x n.toNat ||| barred n ps r
theorem barred_bit (n : Int) (ps : List (Int × Int)) (j : Nat) : ∀ l : List Int, (barred n ps l).testBit j = (decide (j < n.toNat) && !(l.all fun x => may ps x j))
  | [] => by simp [barred]
  | x :: r => by
    unfold barred
    rw [Nat.testBit_or, barN_bit, barred_bit n ps j r, List.all_cons, Bool.not_and, Bool.and_or_distrib_left]
theorem barred_snoc (n : Int) (ps : List (Int × Int)) (x : Int) : ∀ l : List Int, barred n ps (l ++ [x]) = barred n ps l ||| barN ps x n.toNat
  | [] => by simp [barred]
  | y :: r => by
    show barN ps y n.toNat ||| barred n ps (r ++ [x]) = (barN ps y n.toNat ||| barred n ps r) ||| barN ps x n.toNat
    rw [barred_snoc n ps x r, Nat.or_assoc]
theorem bars_get {n : Int} {ps : List (Int × Int)} {x : Int} (h0 : 0 ≤ x) (hn : x < n) : atI (iL (barsL n ps)) x = some (.int (barN ps x n.toNat : Nat)) := by
  have e : x = ((x.toNat : Nat) : Int) := by omega
  rw [e]
  refine atI_nat ?_
  rw [iL_get]
  unfold barsL
  rw [List.getElem?_map, List.getElem?_range (by omega)]
  simp only [Option.map_some, ← e]
theorem shr_and (b j : Nat) : Builtin.bitAnd ((b : Int) / 2 ^ j) 1 = (if b.testBit j = true then 1 else 0 : Int) := by
  rw [PyProof.Rows.bitAnd_m1, show (2 : Int) ^ j = ((2 ^ j : Nat) : Int) by simp, ← Int.natCast_ediv, Nat.testBit_eq_decide_div_mod_eq]
  have h : b / 2 ^ j % 2 < 2 := Nat.mod_lt _ (by decide)
  by_cases e : b / 2 ^ j % 2 = 1
  · rw [if_pos (decide_eq_true e)]
    omega
  · rw [if_neg (by simpa using e)]
    omega
abbrev A_first_letters (as : List Ag) (ds : List PyData) : Prop := ∃ (n : Int) (ps : List (Int × Int)) (l : List Int), PairsOk n ps ∧ 0 ≤ n ∧ n ≤ 6 ∧ l.length ≤ 20 ∧ rowIn n l ∧ as = [.n (iL (barsL n ps)), .c (.d (row l))] ∧ ds = (firstsL ps l).map Pt.pairD
theorem can_bit {n : Int} {ps : List (Int × Int)} {l : List Int} {t : Nat} (ht : t < l.length) (h : rowIn n l) : (!(barred n ps (l.take t)).testBit l[t].toNat) = canFirst ps l t := by
  have hx := h _ (List.getElem_mem ht)
  rw [barred_bit, decide_eq_true (show l[t].toNat < n.toNat by omega), Bool.true_and, Bool.not_not]
  unfold canFirst
  have e1 : l.getD t 0 = l[t] := by rw [List.getD_eq_getElem?_getD, List.getElem?_eq_getElem ht]; rfl
  rw [e1, Int.toNat_of_nonneg hx.1]
def firstsTo (ps : List (Int × Int)) (l : List Int) (t : Nat) : List (Int × Int) := ((List.range t).filter (canFirst ps l)).map fun p : Nat => (l.getD p 0, (p : Int))
theorem firstsTo_succ (ps : List (Int × Int)) (l : List Int) (t : Nat) : firstsTo ps l (t + 1) = if canFirst ps l t = true then firstsTo ps l t ++ [(l.getD t 0, (t : Int))] else firstsTo ps l t := by
  unfold firstsTo
  rw [List.range_succ, List.filter_append, List.map_append]
  cases e : canFirst ps l t <;> simp [e]
theorem firstsTo_len (ps : List (Int × Int)) (l : List Int) (t : Nat) : (firstsTo ps l t).length ≤ t := by
  unfold firstsTo
  rw [List.length_map]
  exact Nat.le_trans (List.length_filter_le _ _) (by rw [List.length_range]; exact Nat.le_refl _)
theorem ok_first_letters (E : Nv K mg) : FnOk P w K mg base CX0 4 E.a_first_letters E.d_first_letters ["bars", "row"] (spN K E.C_Trade A_first_letters) := by
  refine E.F_first_letters.ok sc_first_letters (fun vs H Q _ h => ?_) (fun cdv A outer s H vs Q _ hr h => ?_)
  · obtain ⟨as, d, ha, ⟨_, _, _, _, _, _, _, _, rfl, _⟩, _⟩ := h
    exact ha.length
  · obtain ⟨as, d, ha, ⟨n, ps, l, hok, h0, h6, hl, hin, rfl, rfl⟩, q⟩ := h
    obtain ⟨v1, v2, rfl, a1, a2⟩ := ha.two
    obtain ⟨pb, a1⟩ := a1.lent
    refine ⟨_, (pss_cons (ps_set (i := 2) sc_first_letters.nd rfl (.inl rfl) (pe_lst pa_nil))
      (pss_cons (ps_set (i := 3) sc_first_letters.nd rfl (.inl rfl) pe_int)
      (pss_cons (ps_for PassesOwn.never rfl (pi_enumTK K (by rfl) E.n_enumerate (pa_cons (pv 1) pa_nil)) (pg_tupK K (n := 2) rfl (pgs_cons (pg_name (i := 4) sc_first_letters.nd rfl (.inl rfl)) (pgs_cons (pg_name (i := 5) sc_first_letters.nd rfl (.inl rfl)) pgs_nil)))
      (pss_cons (ps_if (pt_cmpR (op_eqK K hr.units) (pe_op op_and (pe_op op_shr (pv 3) (pv 5)) pe_int) pe_int (nomark _)) (pss_one (ps_expr (pe_bm PySem.F.plainAttrs_list PySem.F.slot_list_append PySem.F.type_list_append mt_append (pv 2) (pa_cons (pe_tupF (pa_cons (pv 5) (pa_cons (pv 4) pa_nil))) pa_nil)))) pss_nil)
      (pss_one (ps_set (i := 3) sc_first_letters.nd rfl (.inl rfl) (pe_op op_or (pv 3) (pe_ix (ix_K K) (pv 0) (pv 5) (fun _ _ => rfl)))))))
      (pss_one (ps_ret (pv 2)))))), ?_⟩
    have w : Wd K E.C_Trade [] [] H H _ [.s pb (iL (barsL n ps)), .d (row l), .u, .u, .u, .u] := Wd.start2 (N := N_first_letters) a1 a2
    refine q_asgN w (en_lst ed_nil) fun p σ1 H1 hp1 w1 => ?_
    refine q_asgD w1 ev_int fun σ2 H2 w2 => ?_
    refine q_forE w2 (ev_var w2 rfl) (fun a t σ H' => ∃ c4 c5, Wd K E.C_Trade [] [(.ref a, row l)] H H' σ [.s pb (iL (barsL n ps)), .d (row l), .l p ((firstsTo ps l t).map Pt.pairD), .d (.int (barred n ps (l.take t) : Nat)), c4, c5]) (fun a H3 w3 => ⟨_, _, w3⟩) (fun a t σ H' ⟨_, _, w3⟩ => w3.gh0) ?_ ?_
    · rintro a t d v σ H' H3 hd tv ⟨c4, c5, w3⟩ e3
      have ht : t < l.length := by
        have := (List.getElem?_eq_some_iff.mp hd).1
        rw [iL_len] at this
        exact this
      have ed : d = .int l[t] := by
        rw [iL_get, List.getElem?_eq_getElem ht] at hd
        exact (Option.some.inj hd).symm
      subst ed
      have hx := hin _ (List.getElem_mem ht)
      have ge : l.getD t 0 = l[t] := by rw [List.getD_eq_getElem?_getD, List.getElem?_eq_getElem ht]; rfl
      have w4 : Wd K E.C_Trade [] [(.ref a, row l)] H H3 _ [.s pb (iL (barsL n ps)), .d (row l), .l p ((firstsTo ps l t).map Pt.pairD), .d (.int (barred n ps (l.take t) : Nat)), .d (.int (t : Nat)), .d (.int l[t])] := ((w3.mono e3).set 4 (v := .int (t : Nat)) (c := .d (.int (t : Nat))) (Td.int _)).set 5 tv
      have w5' : ∀ H5 σ5 ds, Wd K E.C_Trade [] [(.ref a, row l)] H H5 σ5 [.s pb (iL (barsL n ps)), .d (row l), .l p ds, .d (.int (barred n ps (l.take t) : Nat)), .d (.int (t : Nat)), .d (.int l[t])] → ds = (firstsTo ps l (t + 1)).map Pt.pairD → ∀ D : Ends, (∀ σ H', (∃ c4 c5, Wd K E.C_Trade [] [(.ref a, row l)] H H' σ [.s pb (iL (barsL n ps)), .d (row l), .l p ((firstsTo ps l (t + 1)).map Pt.pairD), .d (.int (barred n ps (l.take (t + 1)) : Nat)), c4, c5]) → D.nx σ H') →
          tAsg (tOp (rI0 fun i j => V.int (Builtin.bitOr i j)) (tVar 3) (tOp (rIx K) (tVar 0) (tVar 5))) (gName 3) D σ5 H5 := fun H5 σ5 ds w5 eds D k => by
        subst eds
        refine s_asgD w5 (d := .int (barred n ps (l.take (t + 1)) : Nat)) (ev_d (ev_i0 (ev_var w5 rfl) (ev_ixS (ev_var w5 rfl) (ev_var w5 rfl) (bars_get hx.1 hx.2)) (fun _ => .int _)) ?_) fun σ6 H6 w6 => k _ _ ⟨_, _, w6⟩
        rw [bitOr_nat, List.take_succ_eq_append_getElem ht, barred_snoc]
      refine q_if w4 (b := canFirst ps l t) (et_cast (et_test (ev_eqI (ev_i0 (ev_iC (d := .int ((barred n ps (l.take t) : Nat) / 2 ^ l[t].toNat)) (ev_var w4 rfl) (ev_var w4 rfl) hx.1 (fun _ => .int _)) ev_int (fun _ => .int _)) ev_int)) ?_) (fun e H5 w5 => ?_) (fun e H5 w5 => ?_)
      · rw [shr_and, ← can_bit ht hin]
        cases (barred n ps (l.take t)).testBit l[t].toNat <;> simp
      · refine s_app w5 rfl (d := Pt.pairD (l[t], (t : Int))) (ev_tup (ed_cons (ev_var w5 rfl) (ed_cons (ev_var w5 rfl) ed_nil))) (by rw [List.length_map]; have := firstsTo_len ps l t; omega) fun H6 w6 => ?_
        refine w5' H6 _ _ w6 ?_ _ fun _ _ z => z
        rw [firstsTo_succ, if_pos e, List.map_append, ge]
        rfl
      · refine s_next ?_
        refine w5' H5 _ _ w5 ?_ _ fun _ _ z => z
        rw [firstsTo_succ, if_neg (by rw [e]; exact Bool.false_ne_true)]
    · rintro a σ H' ⟨c4, c5, w3⟩
      rw [iL_len] at w3
      exact s_retLQ w3 q rfl
abbrev A_without (as : List Ag) (d : PyData) : Prop := ∃ (l : List Int) (p : Nat), p < l.length ∧ l.length < 1000 ∧ as = [.c (.d (row l)), .c (.d (.int (p : Nat)))] ∧ d = row (l.eraseIdx p)
theorem ok_without (E : Nv K mg) : FnOk P w K mg base CX0 4 E.a_without E.d_without ["row", "place"] (spC K E.C_Trade A_without) := by
  refine E.F_without.ok sc_without (fun vs H Q _ h => ?_) (fun cdv A outer s H vs Q _ hr h => ?_)
  · obtain ⟨as, d, ha, ⟨_, _, _, _, rfl, _⟩, _⟩ := h
    exact ha.length
  · obtain ⟨as, d, ha, ⟨l, p, hp, hl, rfl, rfl⟩, q⟩ := h
    obtain ⟨v1, v2, rfl, a1, a2⟩ := ha.two
    refine ⟨_, (pss_one (ps_ret (pe_op (op_addK K) (pe_slice (sl_K K) (pv 0) po_none (po_some (pv 1))) (pe_slice (sl_K K) (pv 0) (po_some (pe_op (op_addK K) (pv 1) pe_int)) po_none)))), ?_⟩
    have w : Wd K E.C_Trade [] [] H H _ [.d (row l), .d (.int (p : Nat))] := Wd.start2 (N := N_without) a1 a2
    have e1 : ((p : Nat) : Int) + 1 = ((p + 1 : Nat) : Int) := by omega
    refine s_retQ w q (ev_d (ev_addT (ev_slT (ev_var w rfl) eo_none (eo_some (ev_var w rfl))) (ev_slT (lo := some ((p + 1 : Nat) : Int)) (ev_var w rfl) (eo_some (ev_d (ev_addI (ev_var w rfl) ev_int) (by rw [e1]))) eo_none) ?_) ?_)
    · rw [cut_to, cut_from, List.length_take, List.length_drop, iL_len]
      omega
    · rw [cut_to, cut_from, List.eraseIdx_eq_take_drop_succ]
      show PyData.tuple _ = .tuple (iL _)
      unfold iL
      rw [List.map_append, List.map_take, List.map_drop]
end
end K1
set_option maxRecDepth 10000000
namespace K1
open PySem PySem.Spec PyProof.Rows L2 Pt
local macro_rules
  | `(tactic| walk_at "sz") => `(tactic| first
    | omega
    | decide
    | (simp; omega)
    | (simp [iL, row, pairsD]; omega))
  | `(tactic| walk_at "ea") => `(tactic| first
    | (with_reducible exact ea_nil)
    | ((with_reducible apply ea_consL); (focus (walk_at "ev")); (focus (walk_at "ea")))
    | ((with_reducible apply ea_consS); (focus (walk_at "ev")); (focus (walk_at "ea")))
    | ((with_reducible apply ea_cons); (focus (walk_at "ev")); (focus (walk_at "ea")))
    | ((with_reducible apply ea_consN); (focus (walk_at "en")); (focus (walk_at "ea"))))
  | `(tactic| walk_at "ed") => `(tactic| first
    | (with_reducible exact ed_nil)
    | ((with_reducible apply ed_cons); (focus (walk_at "ev")); (focus (walk_at "ed"))))
  | `(tactic| walk_at "en") => `(tactic| first
    | ((with_reducible apply en_lst); (focus (walk_at "ed")); (focus (simp)))
    | ((with_reducible apply en_listT); (focus (walk_at "ev")))
    | ((with_reducible apply en_addL); (focus (walk_at "ev")); (focus (walk_at "en")); (focus (walk_at "sz")))
    | ((with_reducible apply en_addN); (focus (walk_at "en")); (focus (walk_at "en")); (focus (walk_at "sz")))
    | ((with_reducible apply en_slL); (focus (walk_at "ev")); (focus (walk_at "eo")); (focus (walk_at "eo"))))
  | `(tactic| walk_at "eo") => `(tactic| first
    | (with_reducible exact eo_none)
    | ((with_reducible apply eo_some); (focus (walk_at "ev"))))
  | `(tactic| walk_at "et") => `(tactic| first
    | (with_reducible exact et_yes)
    | ((with_reducible apply et_test); (focus (walk_at "ev")))
    | ((with_reducible apply et_B); (focus (walk_at "ev")))
    | ((with_reducible apply et_truB); (focus (walk_at "ev")))
    | ((with_reducible apply et_truT); (focus (walk_at "ev")))
    | ((with_reducible apply et_not); (focus (walk_at "et")))
    | ((with_reducible apply et_and); (focus (walk_at "et")); (focus (intro _; walk_at "et")))
    | ((with_reducible apply et_or); (focus (walk_at "et")); (focus (intro _; walk_at "et"))))
  | `(tactic| walk_at "var") => `(tactic| first
    | ((with_reducible apply ev_varD); (focus (assumption)); (focus (rfl)))
    | ((with_reducible apply ev_varL); (focus (assumption)); (focus (rfl)))
    | ((with_reducible apply ev_varS); (focus (assumption)); (focus (rfl)))
    | ((with_reducible apply ev_varT); (focus (assumption)); (focus (rfl)))
    | ((with_reducible apply ev_varH); (focus (assumption)); (focus (rfl)))
    | ((with_reducible apply ev_varZ); (focus (assumption)); (focus (rfl))))
  | `(tactic| walk_at "ev") => `(tactic| first
    | walk_at "var"
    | (with_reducible exact ev_int)
    | (with_reducible exact ev_bl)
    | (with_reducible exact ev_str)
    | (with_reducible exact ev_non)
    | ((with_reducible apply ev_letters); (focus (walk_at "ev")))
    | ((with_reducible apply ev_pairs); (focus (walk_at "ev")))
    | ((with_reducible apply ev_addI); (focus (walk_at "ev")); (focus (walk_at "ev")))
    | ((with_reducible apply ev_addT); (focus (walk_at "ev")); (focus (walk_at "ev")); (focus (walk_at "sz")))
    | ((with_reducible apply ev_i0); (focus (walk_at "ev")); (focus (walk_at "ev")); (focus (first | exact fun _ => .int _ | exact fun _ => .bl _)))
    | ((with_reducible apply ev_iC); (focus (walk_at "ev")); (focus (walk_at "ev")); (focus (first | assumption | walk_at "cond")); (focus (exact fun _ => .int _)))
    | ((with_reducible apply ev_chain); (focus (walk_at "ev")); (focus (walk_at "ev")); (focus (walk_at "ev")))
    | ((with_reducible apply ev_eqI); (focus (walk_at "ev")); (focus (walk_at "ev")))
    | ((with_reducible apply ev_neI); (focus (walk_at "ev")); (focus (walk_at "ev")))
    | ((with_reducible apply ev_eqR); (focus (walk_at "ev")); (focus (walk_at "ev")))
    | ((with_reducible apply ev_neR); (focus (walk_at "ev")); (focus (walk_at "ev")))
    | ((with_reducible apply ev_isN); (focus (walk_at "ev")))
    | ((with_reducible apply ev_notN); (focus (walk_at "ev")))
    | ((with_reducible apply ev_in2); (focus (walk_at "ev")); (focus (walk_at "ev")); (focus (walk_at "ev")))
    | ((with_reducible apply ev_inP); (focus (walk_at "ev")); (focus (walk_at "ev")))
    | ((with_reducible apply ev_tup); (focus (walk_at "ed")); (focus (simp)))
    | ((with_reducible apply ev_lenT); (focus (walk_at "ev")))
    | ((with_reducible apply ev_lenL); (focus (walk_at "ev")))
    | ((with_reducible apply ev_lenS); (focus (walk_at "ev")))
    | ((with_reducible apply ev_lenN); (focus (walk_at "en")))
    | ((with_reducible apply ev_max2); (focus (walk_at "ev")); (focus (walk_at "ev")))
    | ((with_reducible apply ev_min2); (focus (walk_at "ev")); (focus (walk_at "ev")))
    | ((with_reducible apply ev_int1); (focus (walk_at "ev")))
    | ((with_reducible apply ev_tupleL); (focus (walk_at "ev")))
    | ((with_reducible apply ev_tupleN); (focus (walk_at "en")))
    | ((with_reducible apply ev_countT); (focus (walk_at "ev")); (focus (walk_at "ev")))
    | ((with_reducible apply ev_andV); (focus (walk_at "ev")); (focus (intro _; walk_at "ev")))
    | ((with_reducible apply ev_orV); (focus (walk_at "ev")); (focus (intro _; walk_at "ev")))
    | ((with_reducible apply ev_notV); (focus (walk_at "ev"))))
section
variable {P : Program} {w : World} {K : PySem.W.Frag} {mg : Str → Option Value} {base : Heap}
def ltB (p q : Int × Int) : Bool := decide (p.1 < q.1 ∨ (p.1 = q.1 ∧ p.2 < q.2))
def minP (p : Int × Int) (ps : List (Int × Int)) : Int × Int := ps.foldl (fun a y => if ltB y a = true then y else a) p
theorem minD_pairs (ps : List (Int × Int)) : ∀ p : Int × Int, PySem.W.minD (Pt.pairD p) (ps.map Pt.pairD) = Pt.pairD (minP p ps) := by
  unfold PySem.W.minD minP
  induction ps with
  | nil => intro p; rfl
  | cons y ps ih =>
    intro p
    rw [List.map_cons, List.foldl_cons, List.foldl_cons, ← ih]
    have e : PySem.W.dataLt (Pt.pairD y) (Pt.pairD p) = ltB y p := PySem.W.dataLt_ii y.1 y.2 p.1 p.2
    rw [e]
    cases ltB y p <;> rfl
theorem minP_mem (ps : List (Int × Int)) : ∀ p : Int × Int, minP p ps ∈ p :: ps := by
  unfold minP
  induction ps with
  | nil => intro p; exact List.mem_cons_self
  | cons y ps ih =>
    intro p
    rw [List.foldl_cons]
    have := ih (if ltB y p = true then y else p)
    cases h : ltB y p with
    | true =>
      rw [h, if_pos rfl] at this
      rw [if_pos rfl]
      exact List.mem_cons_of_mem _ this
    | false =>
      rw [h, if_neg Bool.false_ne_true] at this
      rw [if_neg Bool.false_ne_true]
      rcases List.mem_cons.mp this with z | z
      · rw [z]; exact List.mem_cons_self
      · exact List.mem_cons_of_mem _ (List.mem_cons_of_mem _ z)
theorem minP_le (ps : List (Int × Int)) : ∀ p : Int × Int, ∀ q ∈ p :: ps, ltB q (minP p ps) = false := by
  have tr : ∀ {a b c : Int × Int}, ltB a b = false → ltB b c = false → ltB a c = false := fun {a b c} h1 h2 => by
    unfold ltB at *
    simp only [decide_eq_false_iff_not] at *
    omega
  have rf : ∀ a : Int × Int, ltB a a = false := fun a => by
    unfold ltB
    simp
  unfold minP
  induction ps with
  | nil =>
    intro p q hq
    rw [List.mem_singleton.mp hq]
    exact rf p
  | cons y ps ih =>
    intro p q hq
    rw [List.foldl_cons]
    cases h : ltB y p with
    | true =>
      rw [if_pos rfl]
      rcases List.mem_cons.mp hq with rfl | hq
      · refine tr ?_ (ih y y List.mem_cons_self)
        unfold ltB at h ⊢
        simp only [decide_eq_false_iff_not, decide_eq_true_eq] at h ⊢
        omega
      · exact ih y q hq
    | false =>
      rw [if_neg Bool.false_ne_true]
      rcases List.mem_cons.mp hq with rfl | hq
      · exact ih q q List.mem_cons_self
      · rcases List.mem_cons.mp hq with rfl | hq
        · exact tr h (ih p p List.mem_cons_self)
        · exact ih p q (List.mem_cons_of_mem _ hq)
theorem pairs_alike (ps : List (Int × Int)) : PySem.W.AlikeAll (ps.map Pt.pairD) := by
  refine ⟨fun x hx y hy => ?_, fun x hx => ?_⟩
  · obtain ⟨p, _, rfl⟩ := List.mem_map.mp hx
    obtain ⟨q, _, rfl⟩ := List.mem_map.mp hy
    simp [Pt.pairD, PySem.W.alike, PySem.W.alikeAll]
  · obtain ⟨p, _, rfl⟩ := List.mem_map.mp hx
    intro z; cases z
def bestFirst (ps : List (Int × Int)) (l : List Int) : Int × Int := match firstsL ps l with
  | [] => (0, 0)
  | p :: r => minP p r
def leastGo (ps : List (Int × Int)) : Nat → List Int → List Int
  | 0, _ => []
  | k + 1, l => (bestFirst ps l).1 :: leastGo ps k (l.eraseIdx (bestFirst ps l).2.toNat)
def leastL (ps : List (Int × Int)) (l : List Int) : List Int := leastGo ps l.length l
theorem firsts_ne {ps : List (Int × Int)} {l : List Int} (h : 0 < l.length) : firstsL ps l ≠ [] := by
  have m : (l.getD 0 0, ((0 : Nat) : Int)) ∈ firstsL ps l := List.mem_map.mpr ⟨0, List.mem_filter.mpr ⟨List.mem_range.mpr h, by simp [canFirst]⟩, rfl⟩
  exact fun e => by rw [e] at m; cases m
theorem firsts_mem {ps : List (Int × Int)} {l : List Int} {q : Int × Int} (h : q ∈ firstsL ps l) : ∃ p : Nat, p < l.length ∧ canFirst ps l p = true ∧ q = (l.getD p 0, (p : Int)) := by
  obtain ⟨p, hp, rfl⟩ := List.mem_map.mp h
  obtain ⟨h1, h2⟩ := List.mem_filter.mp hp
  exact ⟨p, List.mem_range.mp h1, h2, rfl⟩
theorem best_mem {ps : List (Int × Int)} {l : List Int} (h : 0 < l.length) : bestFirst ps l ∈ firstsL ps l := by
  unfold bestFirst
  cases e : firstsL ps l with
  | nil => exact absurd e (firsts_ne h)
  | cons p r => exact minP_mem r p
abbrev A_least_of (as : List Ag) (d : PyData) : Prop := ∃ (n : Int) (ps : List (Int × Int)) (l : List Int), PairsOk n ps ∧ 0 ≤ n ∧ n ≤ 6 ∧ l.length ≤ 20 ∧ rowIn n l ∧ as = [.n (iL (barsL n ps)), .c (.d (row l))] ∧ d = row (leastL ps l)
theorem ok_least_of (E : Nv K mg) : FnOk P w K mg base CX0 8 E.a_least_of E.d_least_of ["bars", "row"] (spC K E.C_Trade A_least_of) := by
  refine E.F_least_of.ok sc_least_of (fun vs H Q _ h => ?_) (fun cdv A outer s H vs Q _ hr h => ?_)
  · obtain ⟨as, d, ha, ⟨_, _, _, _, _, _, _, _, rfl, _⟩, _⟩ := h
    exact ha.length
  · obtain ⟨as, d, ha, ⟨n, ps, l, hok, h0, h6, hl, hin, rfl, rfl⟩, q⟩ := h
    obtain ⟨v1, v2, rfl, a1, a2⟩ := ha.two
    obtain ⟨pb, a1⟩ := a1.lent
    refine ⟨_, (pss_cons (ps_set (i := 2) sc_least_of.nd rfl (.inl rfl) (pe_lst pa_nil))
      (pss_cons (ps_set (i := 3) sc_least_of.nd rfl (.inl rfl) (pv 1))
      (pss_cons (ps_while PassesOwn.never (pt_truK K (pv 3) (fun _ => rfl)) (pss_cons (ps_asg (pe_callB (call_minK K rfl hr.units12) (by rfl) E.n_min (by decide +kernel) (pa_cons (pe_call (ok_first_letters E) (hr.mono (by first | decide | omega)) (by rfl) E.m_first_letters E.F_first_letters.kp E.b_first_letters .nil pass0 (pa_cons (pv 0) (pa_cons (pv 3) pa_nil))) pa_nil)) (pg_tupK K (n := 2) rfl (pgs_cons (pg_name (i := 4) sc_least_of.nd rfl (.inl rfl)) (pgs_cons (pg_name (i := 5) sc_least_of.nd rfl (.inl rfl)) pgs_nil))))
      (pss_cons (ps_expr (pe_bm PySem.F.plainAttrs_list PySem.F.slot_list_append PySem.F.type_list_append mt_append (pv 2) (pa_cons (pv 4) pa_nil)))
      (pss_one (ps_set (i := 3) sc_least_of.nd rfl (.inl rfl) (pe_call (ok_without E) (hr.mono (by first | decide | omega)) (by rfl) E.m_without E.F_without.kp E.b_without .nil pass0 (pa_cons (pv 3) (pa_cons (pv 5) pa_nil))))))))
      (pss_one (ps_ret (pe_callTy (call_tupleK K) (by rfl) E.n_tuple (by decide +kernel) (pa_cons (pv 2) pa_nil))))))), ?_⟩
    have w : Wd K E.C_Trade [] [] H H _ [.s pb (iL (barsL n ps)), .d (row l), .u, .u, .u, .u] := Wd.start2 (N := N_least_of) a1 a2
    refine q_asgN w (en_lst ed_nil) fun p σ1 H1 hp1 w1 => ?_
    refine q_asgD w1 (ev_var w1 rfl) fun σ2 H2 w2 => ?_
    refine s_seq ⟨fun M σ H' => ∃ (fo r : List Int) (c4 c5 : Ct), Wd K E.C_Trade [] [] H H' σ [.s pb (iL (barsL n ps)), .d (row l), .l p (iL fo), .d (row r), c4, c5] ∧ fo ++ leastL ps r = leastL ps l ∧ fo.length + r.length ≤ 20 ∧ rowIn n r ∧ M = r.length, ⟨_, [], l, _, _, w2, rfl, by simpa using hl, hin, rfl⟩, ?_⟩
    rintro M σ H' ⟨fo, r, c4, c5, w3, he, hlen, hr', rfl⟩
    refine (et_truT (ev_var (i := 3) w3 rfl)) H' (Same.refl H') _ fun H3 e3 => ?_
    have w4 := w3.mono e3
    cases hrr : r with
    | nil =>
      subst hrr
      rw [if_neg (show ¬ (!(iL ([] : List Int)).isEmpty) = true by simp [iL])]
      have e : fo = leastL ps l := by rw [← he]; simp [leastL, leastGo]
      rw [e] at w4
      exact s_retQ w4 q (ev_tupleL (ev_var w4 rfl))
    | cons x t =>
      have hpos : 0 < r.length := by rw [hrr]; simp
      rw [← hrr]
      rw [if_pos (show (!(iL r).isEmpty) = true by rw [hrr]; rfl)]
      have hb := best_mem (ps := ps) hpos
      obtain ⟨pl, hpl, _, hbe⟩ := firsts_mem hb
      have hbe2 : (bestFirst ps r).2 = ((pl : Nat) : Int) := by rw [hbe]
      refine ⟨fun σ H' => ∃ c4 c5, Wd K E.C_Trade [] [] H H' σ [.s pb (iL (barsL n ps)), .d (row l), .l p (iL (fo ++ [(bestFirst ps r).1])), .d (row (r.eraseIdx pl)), c4, c5], ?_, ?_⟩
      · rintro σ' H'' ⟨c4, c5, w5⟩
        have hle : (r.eraseIdx pl).length + 1 = r.length := by rw [List.length_eraseIdx_of_lt hpl]; omega
        refine ⟨(r.eraseIdx pl).length, by omega, _, _, c4, c5, w5, ?_, ?_, fun y hy => hr' y (List.mem_of_mem_eraseIdx hy), rfl⟩
        · rw [← he, List.append_assoc]
          congr 1
          unfold leastL
          rw [show r.length = (r.eraseIdx pl).length + 1 by omega]
          unfold leastGo
          rw [hbe2, Int.toNat_natCast]
          cases h : (r.eraseIdx pl).length <;> rfl
        · rw [List.length_append]
          simp
          omega
      · cases hf : firstsL ps r with
        | nil => exact absurd hf (firsts_ne hpos)
        | cons p0 rest =>
          have hbf : bestFirst ps r = minP p0 rest := by unfold bestFirst; rw [hf]
          have hdep := depth_pairs (p0 :: rest)
          have hal := pairs_alike (p0 :: rest)
          refine q_unpD (i := 4) (j := 5) (d1 := .int (bestFirst ps r).1) (d2 := .int (bestFirst ps r).2) w4 (ev_d (ev_minN (d := Pt.pairD p0) (ds := rest.map Pt.pairD) (en_cast (en_call (ea_consS (ev_var w4 rfl) (ea_cons (ev_var w4 rfl) ea_nil)) ⟨n, ps, r, hok, h0, h6, by omega, hr', rfl, rfl⟩) (by rw [hf]; rfl)) hal (Nat.le_trans hdep (by decide))) (by rw [minD_pairs, hbf]; rfl)) fun σ5 H5 w5 => ?_
          have w5' : Wd K E.C_Trade [] [] H H5 σ5 [.s pb (iL (barsL n ps)), .d (row l), .l p (iL fo), .d (row r), .d (.int (bestFirst ps r).1), .d (.int (bestFirst ps r).2)] := w5
          refine q_app w5' rfl (ev_var w5' rfl) (by rw [iL_len]; omega) fun H6 w6 => ?_
          have w6' : Wd K E.C_Trade [] [] H H6 σ5 [.s pb (iL (barsL n ps)), .d (row l), .l p (iL (fo ++ [(bestFirst ps r).1])), .d (row r), .d (.int (bestFirst ps r).1), .d (.int (bestFirst ps r).2)] := by
            rw [iL_app]
            exact w6
          refine s_asgD w6' (ev_call (ea_cons (ev_var w6' rfl) (ea_cons (ev_d (ev_var w6' rfl) (by rw [hbe2])) ea_nil)) ⟨r, pl, hpl, by omega, rfl, rfl⟩) fun σ7 H7 w7 => ⟨_, _, w7⟩
end
end K1
set_option maxRecDepth 10000000
namespace K1
open PySem PySem.Spec PyProof.Rows L2 Pt
local macro_rules
  | `(tactic| walk_at "sz") => `(tactic| first
    | omega
    | decide
    | (simp; omega)
    | (simp [iL, row, pairsD]; omega))
  | `(tactic| walk_at "ea") => `(tactic| first
    | (with_reducible exact ea_nil)
    | ((with_reducible apply ea_consL); (focus (walk_at "ev")); (focus (walk_at "ea")))
    | ((with_reducible apply ea_consS); (focus (walk_at "ev")); (focus (walk_at "ea")))
    | ((with_reducible apply ea_cons); (focus (walk_at "ev")); (focus (walk_at "ea")))
    | ((with_reducible apply ea_consN); (focus (walk_at "en")); (focus (walk_at "ea"))))
  | `(tactic| walk_at "ed") => `(tactic| first
    | (with_reducible exact ed_nil)
    | ((with_reducible apply ed_cons); (focus (walk_at "ev")); (focus (walk_at "ed"))))
  | `(tactic| walk_at "en") => `(tactic| first
    | ((with_reducible apply en_lst); (focus (walk_at "ed")); (focus (simp)))
    | ((with_reducible apply en_listT); (focus (walk_at "ev")))
    | ((with_reducible apply en_addL); (focus (walk_at "ev")); (focus (walk_at "en")); (focus (walk_at "sz")))
    | ((with_reducible apply en_addN); (focus (walk_at "en")); (focus (walk_at "en")); (focus (walk_at "sz")))
    | ((with_reducible apply en_slL); (focus (walk_at "ev")); (focus (walk_at "eo")); (focus (walk_at "eo"))))
  | `(tactic| walk_at "eo") => `(tactic| first
    | (with_reducible exact eo_none)
    | ((with_reducible apply eo_some); (focus (walk_at "ev"))))
  | `(tactic| walk_at "et") => `(tactic| first
    | (with_reducible exact et_yes)
    | ((with_reducible apply et_test); (focus (walk_at "ev")))
    | ((with_reducible apply et_B); (focus (walk_at "ev")))
    | ((with_reducible apply et_truB); (focus (walk_at "ev")))
    | ((with_reducible apply et_truT); (focus (walk_at "ev")))
    | ((with_reducible apply et_not); (focus (walk_at "et")))
    | ((with_reducible apply et_and); (focus (walk_at "et")); (focus (intro _; walk_at "et")))
    | ((with_reducible apply et_or); (focus (walk_at "et")); (focus (intro _; walk_at "et"))))
  | `(tactic| walk_at "var") => `(tactic| first
    | ((with_reducible apply ev_varD); (focus (assumption)); (focus (rfl)))
    | ((with_reducible apply ev_varL); (focus (assumption)); (focus (rfl)))
    | ((with_reducible apply ev_varS); (focus (assumption)); (focus (rfl)))
    | ((with_reducible apply ev_varT); (focus (assumption)); (focus (rfl)))
    | ((with_reducible apply ev_varH); (focus (assumption)); (focus (rfl)))
    | ((with_reducible apply ev_varZ); (focus (assumption)); (focus (rfl))))
  | `(tactic| walk_at "ev") => `(tactic| first
    | walk_at "var"
    | (with_reducible exact ev_int)
    | (with_reducible exact ev_bl)
    | (with_reducible exact ev_str)
    | (with_reducible exact ev_non)
    | ((with_reducible apply ev_letters); (focus (walk_at "ev")))
    | ((with_reducible apply ev_pairs); (focus (walk_at "ev")))
    | ((with_reducible apply ev_addI); (focus (walk_at "ev")); (focus (walk_at "ev")))
    | ((with_reducible apply ev_addT); (focus (walk_at "ev")); (focus (walk_at "ev")); (focus (walk_at "sz")))
    | ((with_reducible apply ev_i0); (focus (walk_at "ev")); (focus (walk_at "ev")); (focus (first | exact fun _ => .int _ | exact fun _ => .bl _)))
    | ((with_reducible apply ev_iC); (focus (walk_at "ev")); (focus (walk_at "ev")); (focus (first | assumption | walk_at "cond")); (focus (exact fun _ => .int _)))
    | ((with_reducible apply ev_chain); (focus (walk_at "ev")); (focus (walk_at "ev")); (focus (walk_at "ev")))
    | ((with_reducible apply ev_eqI); (focus (walk_at "ev")); (focus (walk_at "ev")))
    | ((with_reducible apply ev_neI); (focus (walk_at "ev")); (focus (walk_at "ev")))
    | ((with_reducible apply ev_eqR); (focus (walk_at "ev")); (focus (walk_at "ev")))
    | ((with_reducible apply ev_neR); (focus (walk_at "ev")); (focus (walk_at "ev")))
    | ((with_reducible apply ev_isN); (focus (walk_at "ev")))
    | ((with_reducible apply ev_notN); (focus (walk_at "ev")))
    | ((with_reducible apply ev_in2); (focus (walk_at "ev")); (focus (walk_at "ev")); (focus (walk_at "ev")))
    | ((with_reducible apply ev_inP); (focus (walk_at "ev")); (focus (walk_at "ev")))
    | ((with_reducible apply ev_tup); (focus (walk_at "ed")); (focus (simp)))
    | ((with_reducible apply ev_lenT); (focus (walk_at "ev")))
    | ((with_reducible apply ev_lenL); (focus (walk_at "ev")))
    | ((with_reducible apply ev_lenS); (focus (walk_at "ev")))
    | ((with_reducible apply ev_lenN); (focus (walk_at "en")))
    | ((with_reducible apply ev_max2); (focus (walk_at "ev")); (focus (walk_at "ev")))
    | ((with_reducible apply ev_min2); (focus (walk_at "ev")); (focus (walk_at "ev")))
    | ((with_reducible apply ev_int1); (focus (walk_at "ev")))
    | ((with_reducible apply ev_tupleL); (focus (walk_at "ev")))
    | ((with_reducible apply ev_tupleN); (focus (walk_at "en")))
    | ((with_reducible apply ev_countT); (focus (walk_at "ev")); (focus (walk_at "ev")))
    | ((with_reducible apply ev_andV); (focus (walk_at "ev")); (focus (intro _; walk_at "ev")))
    | ((with_reducible apply ev_orV); (focus (walk_at "ev")); (focus (intro _; walk_at "ev")))
    | ((with_reducible apply ev_notV); (focus (walk_at "ev"))))
section
variable {P : Program} {w : World} {K : PySem.W.Frag} {mg : Str → Option Value} {base : Heap}
def sortI (l : List Int) : List Int := l.mergeSort fun a b => decide (a ≤ b)
def stepL (ps : List (Int × Int)) (l : List Int) : List Int := sortI ((firstsL ps l).map (·.1))
end
end K1
set_option maxRecDepth 10000000
namespace K1
open PySem PySem.Spec PyProof.Rows L2 Pt
local macro_rules
  | `(tactic| walk_at "sz") => `(tactic| first
    | omega
    | decide
    | (simp; omega)
    | (simp [iL, row, pairsD]; omega))
  | `(tactic| walk_at "ea") => `(tactic| first
    | (with_reducible exact ea_nil)
    | ((with_reducible apply ea_consL); (focus (walk_at "ev")); (focus (walk_at "ea")))
    | ((with_reducible apply ea_consS); (focus (walk_at "ev")); (focus (walk_at "ea")))
    | ((with_reducible apply ea_cons); (focus (walk_at "ev")); (focus (walk_at "ea")))
    | ((with_reducible apply ea_consN); (focus (walk_at "en")); (focus (walk_at "ea"))))
  | `(tactic| walk_at "ed") => `(tactic| first
    | (with_reducible exact ed_nil)
    | ((with_reducible apply ed_cons); (focus (walk_at "ev")); (focus (walk_at "ed"))))
  | `(tactic| walk_at "en") => `(tactic| first
    | ((with_reducible apply en_lst); (focus (walk_at "ed")); (focus (simp)))
    | ((with_reducible apply en_listT); (focus (walk_at "ev")))
    | ((with_reducible apply en_addL); (focus (walk_at "ev")); (focus (walk_at "en")); (focus (walk_at "sz")))
    | ((with_reducible apply en_addN); (focus (walk_at "en")); (focus (walk_at "en")); (focus (walk_at "sz")))
    | ((with_reducible apply en_slL); (focus (walk_at "ev")); (focus (walk_at "eo")); (focus (walk_at "eo"))))
  | `(tactic| walk_at "eo") => `(tactic| first
    | (with_reducible exact eo_none)
    | ((with_reducible apply eo_some); (focus (walk_at "ev"))))
  | `(tactic| walk_at "et") => `(tactic| first
    | (with_reducible exact et_yes)
    | ((with_reducible apply et_test); (focus (walk_at "ev")))
    | ((with_reducible apply et_B); (focus (walk_at "ev")))
    | ((with_reducible apply et_truB); (focus (walk_at "ev")))
    | ((with_reducible apply et_truT); (focus (walk_at "ev")))
    | ((with_reducible apply et_not); (focus (walk_at "et")))
    | ((with_reducible apply et_and); (focus (walk_at "et")); (focus (intro _; walk_at "et")))
    | ((with_reducible apply et_or); (focus (walk_at "et")); (focus (intro _; walk_at "et"))))
  | `(tactic| walk_at "var") => `(tactic| first
    | ((with_reducible apply ev_varD); (focus (assumption)); (focus (rfl)))
    | ((with_reducible apply ev_varL); (focus (assumption)); (focus (rfl)))
    | ((with_reducible apply ev_varS); (focus (assumption)); (focus (rfl)))
    | ((with_reducible apply ev_varT); (focus (assumption)); (focus (rfl)))
    | ((with_reducible apply ev_varH); (focus (assumption)); (focus (rfl)))
    | ((with_reducible apply ev_varZ); (focus (assumption)); (focus (rfl))))
  | `(tactic| walk_at "ev") => `(tactic| first
    | walk_at "var"
    | (with_reducible exact ev_int)
    | (with_reducible exact ev_bl)
    | (with_reducible exact ev_str)
    | (with_reducible exact ev_non)
    | ((with_reducible apply ev_letters); (focus (walk_at "ev")))
    | ((with_reducible apply ev_pairs); (focus (walk_at "ev")))
    | ((with_reducible apply ev_addI); (focus (walk_at "ev")); (focus (walk_at "ev")))
    | ((with_reducible apply ev_addT); (focus (walk_at "ev")); (focus (walk_at "ev")); (focus (walk_at "sz")))
    | ((with_reducible apply ev_i0); (focus (walk_at "ev")); (focus (walk_at "ev")); (focus (first | exact fun _ => .int _ | exact fun _ => .bl _)))
    | ((with_reducible apply ev_iC); (focus (walk_at "ev")); (focus (walk_at "ev")); (focus (first | assumption | walk_at "cond")); (focus (exact fun _ => .int _)))
    | ((with_reducible apply ev_chain); (focus (walk_at "ev")); (focus (walk_at "ev")); (focus (walk_at "ev")))
    | ((with_reducible apply ev_eqI); (focus (walk_at "ev")); (focus (walk_at "ev")))
    | ((with_reducible apply ev_neI); (focus (walk_at "ev")); (focus (walk_at "ev")))
    | ((with_reducible apply ev_eqR); (focus (walk_at "ev")); (focus (walk_at "ev")))
    | ((with_reducible apply ev_neR); (focus (walk_at "ev")); (focus (walk_at "ev")))
    | ((with_reducible apply ev_isN); (focus (walk_at "ev")))
    | ((with_reducible apply ev_notN); (focus (walk_at "ev")))
    | ((with_reducible apply ev_in2); (focus (walk_at "ev")); (focus (walk_at "ev")); (focus (walk_at "ev")))
    | ((with_reducible apply ev_inP); (focus (walk_at "ev")); (focus (walk_at "ev")))
    | ((with_reducible apply ev_tup); (focus (walk_at "ed")); (focus (simp)))
    | ((with_reducible apply ev_lenT); (focus (walk_at "ev")))
    | ((with_reducible apply ev_lenL); (focus (walk_at "ev")))
    | ((with_reducible apply ev_lenS); (focus (walk_at "ev")))
    | ((with_reducible apply ev_lenN); (focus (walk_at "en")))
    | ((with_reducible apply ev_max2); (focus (walk_at "ev")); (focus (walk_at "ev")))
    | ((with_reducible apply ev_min2); (focus (walk_at "ev")); (focus (walk_at "ev")))
    | ((with_reducible apply ev_int1); (focus (walk_at "ev")))
    | ((with_reducible apply ev_tupleL); (focus (walk_at "ev")))
    | ((with_reducible apply ev_tupleN); (focus (walk_at "en")))
    | ((with_reducible apply ev_countT); (focus (walk_at "ev")); (focus (walk_at "ev")))
    | ((with_reducible apply ev_andV); (focus (walk_at "ev")); (focus (intro _; walk_at "ev")))
    | ((with_reducible apply ev_orV); (focus (walk_at "ev")); (focus (intro _; walk_at "ev")))
    | ((with_reducible apply ev_notV); (focus (walk_at "ev"))))
section
variable {P : Program} {w : World} {K : PySem.W.Frag} {mg : Str → Option Value} {base : Heap}
abbrev A_least (as : List Ag) (d : PyData) : Prop := ∃ (n : Int) (ps : List (Int × Int)) (l : List Int), PairsOk n ps ∧ 0 ≤ n ∧ n ≤ 6 ∧ rowOk n l ∧ as = [.c (.t n ps), .c (.d (row l))] ∧ d = row (leastL ps l)
theorem ok_least (E : Nv K mg) : FnOk P w K mg base CX0 16 E.a_least E.d_least ["trade", "row"] (spC K E.C_Trade A_least) := by
  refine E.F_least.ok sc_least (fun vs H Q _ h => ?_) (fun cdv A outer s H vs Q _ hr h => ?_)
  · obtain ⟨as, d, ha, ⟨_, _, _, _, _, _, _, rfl, _⟩, _⟩ := h
    exact ha.length
  · obtain ⟨as, d, ha, ⟨n, ps, l, hok, h0, h6, hrow, rfl, rfl⟩, q⟩ := h
    obtain ⟨v1, v2, rfl, a1, a2⟩ := ha.two
    refine ⟨_, (pss_cons (ps_expr (pe_call (ok_check_trade E) (hr.mono (by first | decide | omega)) (by rfl) E.m_check_trade E.F_check_trade.kp E.b_check_trade .nil pass0 (pa_cons (pv 0) pa_nil)))
      (pss_cons (ps_expr (pe_call (ok_check_row E) (hr.mono (by first | decide | omega)) (by rfl) E.m_check_row E.F_check_row.kp E.b_check_row .nil pass0 (pa_cons (pv 0) (pa_cons (pv 1) pa_nil))))
      (pss_one (ps_ret (pe_call (ok_least_of E) (hr.mono (by first | decide | omega)) (by rfl) E.m_least_of E.F_least_of.kp E.b_least_of .nil pass0 (pa_cons (pe_call (ok_bars_of E) (hr.mono (by first | decide | omega)) (by rfl) E.m_bars_of E.F_bars_of.kp E.b_bars_of .nil pass0 (pa_cons (pv 0) pa_nil)) (pa_cons (pv 1) pa_nil))))))), ?_⟩
    have w : Wd K E.C_Trade [] [] H H _ [.t n ps, .d (row l)] := Wd.start2 (N := N_least) a1 a2
    refine q_drop w (ev_call (by walk_at "ea") ⟨_, _, rfl, rfl⟩) fun H1 w1 => ?_
    refine q_drop w1 (ev_call (by walk_at "ea") ⟨_, _, _, hrow, rfl, rfl⟩) fun H2 w2 => ?_
    exact s_retQ w2 q (ev_call (ea_consN (en_call (ea_cons (ev_var w2 rfl) ea_nil) ⟨n, ps, h0, h6, rfl, rfl⟩) (ea_cons (ev_var w2 rfl) ea_nil)) ⟨n, ps, l, hok, h0, h6, hrow.1, hrow.2, rfl, rfl⟩)
end
end K1
set_option maxRecDepth 10000000
namespace K1
open Pt
def Alike (ps : List (Int × Int)) (l m : List Int) : Prop := ∃ ks, Walks ps l ks m
theorem Alike.refl (ps : List (Int × Int)) (l : List Int) : Alike ps l l := ⟨[], .nil⟩
theorem Alike.trans {ps : List (Int × Int)} {l m r : List Int} (h : Alike ps l m) (g : Alike ps m r) : Alike ps l r := let ⟨_, w⟩ := h; let ⟨_, v⟩ := g; ⟨_, w.app v⟩
theorem swap_back {ps : List (Int × Int)} {l : List Int} {k : Nat} (h : okAt ps l k) : okAt ps (swapAt l k) k ∧ swapAt (swapAt l k) k = l := by
  obtain ⟨u, v, a, b, e1, e2, e3, hm⟩ := okAt_parts h
  rw [e2, e1, ← e3]
  exact okAt_of (by rw [may_comm]; exact hm)
theorem Alike.symm {ps : List (Int × Int)} {l m : List Int} (h : Alike ps l m) : Alike ps m l := by
  obtain ⟨ks, w⟩ := h
  induction w with
  | nil => exact .refl _ _
  | @cons l k ks m hk _ ih =>
    obtain ⟨h1, h2⟩ := swap_back hk
    exact ih.trans ⟨[(k : Int)], .cons h1 (by rw [h2]; exact .nil)⟩
theorem Alike.cons {ps : List (Int × Int)} {l m : List Int} (x : Int) (h : Alike ps l m) : Alike ps (x :: l) (x :: m) := by
  obtain ⟨ks, w⟩ := h
  induction w with
  | nil => exact .refl _ _
  | @cons l k ks m hk _ ih =>
    have h1 : okAt ps (x :: l) (k + 1) := by
      obtain ⟨a, b, ha, hb, hm⟩ := hk
      exact ⟨a, b, by simpa using ha, by simpa using hb, hm⟩
    have h2 : swapAt (x :: l) (k + 1) = x :: swapAt l k := by
      unfold swapAt
      simp
    refine Alike.trans ⟨[((k + 1 : Nat) : Int)], .cons h1 ?_⟩ ih
    rw [h2]
    exact .nil
theorem erase_parts {l : List Int} {p : Nat} (hp : p < l.length) : l = l.take p ++ l[p] :: l.drop (p + 1) ∧ l.eraseIdx p = l.take p ++ l.drop (p + 1) := by
  refine ⟨?_, List.eraseIdx_eq_take_drop_succ ..⟩
  rw [← List.drop_eq_getElem_cons hp, List.take_append_drop]
theorem first_alike {ps : List (Int × Int)} {l : List Int} {p : Nat} (hp : p < l.length) (h : canFirst ps l p = true) : Alike ps l (l.getD p 0 :: l.eraseIdx p) := by
  obtain ⟨e1, e2⟩ := erase_parts hp
  have ge : l.getD p 0 = l[p] := by rw [List.getD_eq_getElem?_getD, List.getElem?_eq_getElem hp]; rfl
  unfold canFirst at h
  rw [ge] at h ⊢
  have w := move (ps := ps) (x := l[p]) (pre := []) (l.take p) (l.drop (p + 1)) (fun y hy => List.all_eq_true.mp h y hy)
  rw [List.nil_append, List.nil_append, ← e1, ← e2] at w
  exact ⟨_, w⟩
theorem leastGo_alike {ps : List (Int × Int)} : ∀ (k : Nat) (l : List Int), l.length = k → Alike ps l (leastGo ps k l)
  | 0, l, h => by
    have e : l = [] := List.length_eq_zero_iff.mp h
    subst e
    exact .refl _ _
  | k + 1, l, h => by
    obtain ⟨p, hp, hc, hb⟩ := firsts_mem (best_mem (ps := ps) (l := l) (by omega))
    unfold leastGo
    rw [hb]
    have hl : (l.eraseIdx p).length = k := by rw [List.length_eraseIdx_of_lt hp]; omega
    exact (first_alike hp hc).trans (.cons _ (by simpa using leastGo_alike k (l.eraseIdx p) hl))
theorem least_alike (ps : List (Int × Int)) (l : List Int) : Alike ps l (leastL ps l) := leastGo_alike l.length l rfl
theorem head_first {n : Int} {ps : List (Int × Int)} (hok : PairsOk n ps) {l m : List Int} {x : Int} (h : Alike ps l (x :: m)) : ∃ p, p < l.length ∧ l.getD p 0 = x ∧ canFirst ps l p = true ∧ Alike ps (l.eraseIdx p) m := by
  obtain ⟨ks, w⟩ := h
  have hx : x ∈ l := w.perm.mem_iff.mpr List.mem_cons_self
  obtain ⟨u, v, rfl, hu, hi, he⟩ := split_at hx
  have hp : u.length < (u ++ x :: v).length := by rw [List.length_append, List.length_cons]; omega
  have hg : (u ++ x :: v)[u.length] = x := by rw [List.getElem_append_right (Nat.le_refl _)]; simp
  have hg' : (u ++ x :: v).getD u.length 0 = x := by rw [List.getD_eq_getElem?_getD, List.getElem?_eq_getElem hp, hg]; rfl
  have hm : ∀ y ∈ u, may ps y x = true := fun y my => by
    cases q : may ps y x with
    | true => rfl
    | false =>
      exfalso
      have e := w.only hok q
      rw [only_app, only_in (.inr rfl), only_in (.inr rfl)] at e
      have hy : y ∈ onlyL u y x := List.mem_filter.mpr ⟨my, by simp⟩
      cases z : onlyL u y x with
      | nil => rw [z] at hy; cases hy
      | cons w' t =>
        rw [z] at e
        have e1 : w' = x := by simpa using (List.cons.inj e).1
        have : w' ∈ u := (List.mem_filter.mp (show w' ∈ onlyL u y x by rw [z]; exact List.mem_cons_self)).1
        exact hu (e1 ▸ this)
  have hc : canFirst ps (u ++ x :: v) u.length = true := by
    unfold canFirst
    rw [hg', List.take_left]
    exact List.all_eq_true.mpr hm
  have hE : (u ++ x :: v).eraseIdx u.length = u ++ v := by
    rw [List.eraseIdx_eq_take_drop_succ, List.take_left]
    congr 1
    rw [show u ++ x :: v = (u ++ [x]) ++ v by simp, show u.length + 1 = (u ++ [x]).length by simp, List.drop_left]
  refine ⟨u.length, hp, hg', hc, ?_⟩
  -- both behind x: the free pairs stand alike
  have hpm : (u ++ v).Perm m := by
    have := w.perm.erase x
    rw [he, List.erase_cons_head] at this
    exact this
  have hf : Free ps (u ++ v) m := fun a b ne q => by
    have e := w.only hok q
    rw [only_app] at e
    rw [only_app]
    by_cases hxab : x = a ∨ x = b
    · rw [only_in hxab, only_in hxab] at e
      cases z : onlyL u a b with
      | nil => rw [z] at e; simpa using e
      | cons w' t =>
        rw [z] at e
        have e1 : w' = x := by simpa using (List.cons.inj e).1
        have : w' ∈ u := (List.mem_filter.mp (show w' ∈ onlyL u a b by rw [z]; exact List.mem_cons_self)).1
        exact absurd (e1 ▸ this) hu
    · rw [only_out hxab, only_out hxab] at e
      exact e
  rw [hE]
  exact ⟨_, lead_walks m (u ++ v) [] hpm hf⟩
theorem first_once {n : Int} {ps : List (Int × Int)} (hok : PairsOk n ps) {l : List Int} {p q : Nat} (hp : p < l.length) (hq : q < l.length) (h1 : canFirst ps l p = true) (h2 : canFirst ps l q = true) (e : l.getD p 0 = l.getD q 0) : p = q := by
  have key : ∀ {p q : Nat}, p < q → q < l.length → canFirst ps l q = true → l.getD p 0 = l.getD q 0 → False := fun {p q} hlt hq h e => by
    have hp : p < l.length := by omega
    have m : l.getD p 0 ∈ l.take q := by
      rw [List.getD_eq_getElem?_getD, List.getElem?_eq_getElem hp]
      exact List.mem_take_iff_getElem.mpr ⟨p, by omega, rfl⟩
    have z := List.all_eq_true.mp h _ m
    rw [e] at z
    exact may_ne hok z rfl
  rcases Nat.lt_trichotomy p q with z | z | z
  · exact (key z hq h2 e).elim
  · exact z
  · exact (key z hp h1 e.symm).elim
theorem best_le {ps : List (Int × Int)} {l : List Int} {q : Int × Int} (h : q ∈ firstsL ps l) : ltB q (bestFirst ps l) = false := by
  unfold bestFirst
  cases e : firstsL ps l with
  | nil => rw [e] at h; cases h
  | cons p r => rw [e] at h; exact minP_le r p q h
theorem leastGo_le {n : Int} {ps : List (Int × Int)} (hok : PairsOk n ps) : ∀ (k : Nat) (l m : List Int), l.length = k → Alike ps l m → leastGo ps k l ≤ m
  | 0, l, m, h, _ => by
    show leastGo ps 0 l ≤ m
    unfold leastGo
    exact List.nil_le m
  | k + 1, l, m, h, ha => by
    have hlm : l.length = m.length := let ⟨_, w⟩ := ha; w.perm.length_eq
    cases m with
    | nil =>
      rw [h] at hlm
      cases hlm
    | cons x m =>
      obtain ⟨p, hp, hx, hc, hr⟩ := head_first hok ha
      obtain ⟨b, hb, hbc, hbe⟩ := firsts_mem (best_mem (ps := ps) (l := l) (by omega))
      have m1 : (l.getD p 0, (p : Int)) ∈ firstsL ps l := List.mem_map.mpr ⟨p, List.mem_filter.mpr ⟨List.mem_range.mpr hp, hc⟩, rfl⟩
      have le := best_le m1
      unfold leastGo
      rw [hbe] at le ⊢
      unfold ltB at le
      simp only [decide_eq_false_iff_not] at le
      rw [List.cons_le_cons_iff]
      by_cases e : l.getD b 0 = x
      · refine .inr ⟨e, ?_⟩
        have ep := first_once hok hb hp hbc hc (e.trans hx.symm)
        subst ep
        have hl : (l.eraseIdx b).length = k := by rw [List.length_eraseIdx_of_lt hb]; omega
        simpa using leastGo_le hok k (l.eraseIdx b) m hl hr
      · refine .inl ?_
        show l.getD b 0 < x
        omega
theorem least_le {n : Int} {ps : List (Int × Int)} (hok : PairsOk n ps) {l m : List Int} (h : Alike ps l m) : leastL ps l ≤ m := leastGo_le hok l.length l m rfl h
theorem least_same {n : Int} {ps : List (Int × Int)} (hok : PairsOk n ps) {l m : List Int} (h : Alike ps l m) : leastL ps l = leastL ps m :=
  List.le_antisymm (least_le hok (h.trans (least_alike ps m))) (least_le hok (h.symm.trans (least_alike ps l)))
end K1
set_option maxRecDepth 10000000
namespace K1
open Pt
theorem alike_iff {n : Int} {ps : List (Int × Int)} (hok : PairsOk n ps) {l m : List Int} : Alike ps l m ↔ l.Perm m ∧ Free ps l m :=
  ⟨fun ⟨_, w⟩ => ⟨w.perm, fun a b _ q => w.only hok q⟩, fun ⟨hp, hf⟩ => ⟨_, lead_walks m l [] hp hf⟩⟩
theorem firsts_letters (ps : List (Int × Int)) (l : List Int) : (firstsL ps l).map (·.1) = ((List.range l.length).filter (canFirst ps l)).map fun p => l.getD p 0 := by
  unfold firstsL
  rw [List.map_map]
  rfl
theorem Alike.app {ps : List (Int × Int)} {l m : List Int} (h : Alike ps l m) : ∀ u : List Int, Alike ps (u ++ l) (u ++ m)
  | [] => h
  | x :: u => (h.app u).cons x
theorem app_cancel {n : Int} {ps : List (Int × Int)} (hok : PairsOk n ps) {u l m : List Int} (h : Alike ps (u ++ l) (u ++ m)) : Alike ps l m := by
  rw [alike_iff hok] at h ⊢
  refine ⟨(List.perm_append_left_iff u).mp h.1, fun a b ne q => ?_⟩
  have e := h.2 a b ne q
  rw [only_app, only_app] at e
  exact List.append_cancel_left e
theorem first_letter_iff {n : Int} {ps : List (Int × Int)} (hok : PairsOk n ps) {l : List Int} {x : Int} : x ∈ (firstsL ps l).map (·.1) ↔ ∃ m, Alike ps l (x :: m) := by
  constructor
  · intro h
    obtain ⟨q, hq, rfl⟩ := List.mem_map.mp h
    obtain ⟨p, hp, hc, rfl⟩ := firsts_mem hq
    exact ⟨_, first_alike hp hc⟩
  · rintro ⟨m, h⟩
    obtain ⟨p, hp, hx, hc, _⟩ := head_first hok h
    exact List.mem_map.mpr ⟨(l.getD p 0, (p : Int)), List.mem_map.mpr ⟨p, List.mem_filter.mpr ⟨List.mem_range.mpr hp, hc⟩, rfl⟩, hx⟩
theorem firsts_nodup {n : Int} {ps : List (Int × Int)} (hok : PairsOk n ps) (l : List Int) : ((firstsL ps l).map (·.1)).Nodup := by
  rw [firsts_letters]
  unfold List.Nodup
  rw [List.pairwise_map]
  refine List.Pairwise.imp_of_mem (R := (· < ·)) ?_ ((List.pairwise_lt_range).sublist (List.filter_sublist ..))
  intro p q hp hq hlt e
  obtain ⟨p1, p2⟩ := List.mem_filter.mp hp
  obtain ⟨q1, q2⟩ := List.mem_filter.mp hq
  have := first_once hok (List.mem_range.mp p1) (List.mem_range.mp q1) p2 q2 e
  omega
theorem sortI_sorted (l : List Int) : (sortI l).Pairwise (· ≤ ·) := by
  have h := List.pairwise_mergeSort (le := fun a b : Int => decide (a ≤ b)) (fun a b c h1 h2 => by simp at *; omega) (fun a b => by simp; omega) l
  exact h.imp fun h => of_decide_eq_true h
theorem stepL_strict {n : Int} {ps : List (Int × Int)} (hok : PairsOk n ps) (l : List Int) : (stepL ps l).Pairwise (· < ·) := by
  have h1 := sortI_sorted ((firstsL ps l).map (·.1))
  have h2 : (stepL ps l).Nodup := (List.mergeSort_perm _ _).symm.nodup (firsts_nodup hok l)
  exact (h1.and h2).imp fun ⟨a, b⟩ => by omega
theorem mem_step (ps : List (Int × Int)) (l : List Int) (x : Int) : x ∈ stepL ps l ↔ x ∈ (firstsL ps l).map (·.1) := (List.mergeSort_perm _ _).mem_iff
end K1
set_option maxRecDepth 10000000
namespace K1
open Pt
end K1
set_option maxRecDepth 10000000
namespace K1
open Pt
theorem step_ne {ps : List (Int × Int)} {l : List Int} (h : l ≠ []) : stepL ps l ≠ [] := fun e => by
  have z : (stepL ps l).length = ((firstsL ps l).map (·.1)).length := List.length_mergeSort _
  rw [e, List.length_map] at z
  exact firsts_ne (List.length_pos_iff.mpr h) (List.length_eq_zero_iff.mp z.symm)
theorem step_free {n : Int} {ps : List (Int × Int)} (hok : PairsOk n ps) {l : List Int} {a b : Int} (ha : a ∈ stepL ps l) (hb : b ∈ stepL ps l) (ne : a ≠ b) : may ps a b = true := by
  have key : ∀ {p q : Nat}, p < q → q < l.length → canFirst ps l q = true → may ps (l.getD p 0) (l.getD q 0) = true := fun {p q} hlt hq h => by
    have hp : p < l.length := by omega
    have m : l.getD p 0 ∈ l.take q := by
      rw [List.getD_eq_getElem?_getD, List.getElem?_eq_getElem hp]
      exact List.mem_take_iff_getElem.mpr ⟨p, by omega, rfl⟩
    exact List.all_eq_true.mp h _ m
  rw [mem_step] at ha hb
  obtain ⟨qa, ma, rfl⟩ := List.mem_map.mp ha
  obtain ⟨qb, mb, rfl⟩ := List.mem_map.mp hb
  obtain ⟨p, hp, cp, rfl⟩ := firsts_mem ma
  obtain ⟨q, hq, cq, rfl⟩ := firsts_mem mb
  rcases Nat.lt_trichotomy p q with z | z | z
  · exact key z hq cq
  · subst z; exact absurd rfl ne
  · rw [may_comm]; exact key z hp cp
def subs : List Int → List (List Int)
  | [] => [[]]
  | x :: t => (subs t).map (x :: ·) ++ subs t
theorem mem_subs {l m : List Int} (h : l.Sublist m) : l ∈ subs m := by
  induction h with
  | slnil => exact List.mem_singleton.mpr rfl
  | cons a _ ih => exact List.mem_append.mpr (.inr ih)
  | cons_cons a _ ih => exact List.mem_append.mpr (.inl (List.mem_map.mpr ⟨_, ih, rfl⟩))
end K1
set_option maxRecDepth 10000000
namespace K1
open Pt
def isFirst (ps : List (Int × Int)) (l : List Int) (x : Int) : Prop := ∃ m, Alike ps l (x :: m)
theorem isFirst_iff {n : Int} {ps : List (Int × Int)} (hok : PairsOk n ps) {l : List Int} {x : Int} : x ∈ (firstsL ps l).map (·.1) ↔ isFirst ps l x := first_letter_iff hok
def leftL (ps : List (Int × Int)) : List Int → List Int → Option (List Int)
  | [], r => some r
  | x :: one, r => match (firstsL ps r).find? (fun q => decide (q.1 = x)) with
    | none => none
    | some q => leftL ps one (r.eraseIdx q.2.toNat)
theorem left_cons (ps : List (Int × Int)) (x : Int) (one r : List Int) : leftL ps (x :: one) r = match (firstsL ps r).find? (fun q => decide (q.1 = x)) with
    | none => none
    | some q => leftL ps one (r.eraseIdx q.2.toNat) := rfl
theorem find_first {ps : List (Int × Int)} {r : List Int} {x : Int} {q : Int × Int} (h : (firstsL ps r).find? (fun q => decide (q.1 = x)) = some q) : ∃ p : Nat, p < r.length ∧ canFirst ps r p = true ∧ r.getD p 0 = x ∧ q = (x, (p : Int)) := by
  have h1 : q.1 = x := by simpa using List.find?_some h
  obtain ⟨p, hp, hc, e⟩ := firsts_mem (List.mem_of_find?_eq_some h)
  subst e
  exact ⟨p, hp, hc, h1, by rw [← h1]⟩
theorem find_none {n : Int} {ps : List (Int × Int)} (hok : PairsOk n ps) {r : List Int} {x : Int} (h : (firstsL ps r).find? (fun q => decide (q.1 = x)) = none) : ¬ isFirst ps r x := fun z => by
  rw [← isFirst_iff hok] at z
  obtain ⟨q, hq, e⟩ := List.mem_map.mp z
  have := List.find?_eq_none.mp h q hq
  simp [e] at this
theorem left_some {ps : List (Int × Int)} : ∀ {one r s : List Int}, leftL ps one r = some s → Alike ps r (one ++ s) ∧ s.Sublist r
  | [], r, s, h => by
    obtain rfl := Option.some.inj h
    exact ⟨.refl _ _, List.Sublist.refl _⟩
  | x :: one, r, s, h => by
    rw [left_cons] at h
    cases e : (firstsL ps r).find? (fun q => decide (q.1 = x)) with
    | none => rw [e] at h; cases h
    | some q =>
      rw [e] at h
      obtain ⟨p, hp, hc, hx, rfl⟩ := find_first e
      simp only [Int.toNat_natCast] at h
      obtain ⟨h1, h2⟩ := left_some h
      have a := first_alike hp hc
      rw [hx] at a
      exact ⟨a.trans (h1.cons x), h2.trans (List.eraseIdx_sublist r p)⟩
theorem Alike.appR {n : Int} {ps : List (Int × Int)} (hok : PairsOk n ps) {l m : List Int} (h : Alike ps l m) (u : List Int) : Alike ps (l ++ u) (m ++ u) := by
  rw [alike_iff hok] at h ⊢
  refine ⟨h.1.append_right u, fun a b ne q => ?_⟩
  rw [only_app, only_app, h.2 a b ne q]
theorem canFirst_app {ps : List (Int × Int)} {u v : List Int} {p : Nat} (hp : p < u.length) : canFirst ps (u ++ v) p = canFirst ps u p := by
  unfold canFirst
  rw [List.take_append_of_le_length (Nat.le_of_lt hp), List.getD_eq_getElem?_getD, List.getD_eq_getElem?_getD, List.getElem?_append_left hp]
theorem first_app {n : Int} {ps : List (Int × Int)} (hok : PairsOk n ps) {u v : List Int} {x : Int} {m : List Int} (h : Alike ps (u ++ v) (x :: m)) :
    isFirst ps u x ∨ ((∀ y ∈ u, may ps y x = true) ∧ ∃ v', Alike ps v (x :: v') ∧ Alike ps (u ++ v') m) := by
  obtain ⟨p, hp, hx, hc, hr⟩ := head_first hok h
  by_cases hpu : p < u.length
  · left
    have e : u.getD p 0 = x := by rw [← hx, List.getD_eq_getElem?_getD, List.getD_eq_getElem?_getD, List.getElem?_append_left hpu]
    have a := first_alike (ps := ps) hpu (by rw [← canFirst_app (v := v) hpu]; exact hc)
    rw [e] at a
    exact ⟨_, a⟩
  · right
    have hl : u.length ≤ p := by omega
    rw [List.length_append] at hp
    have ex : v.getD (p - u.length) 0 = x := by rw [← hx, List.getD_eq_getElem?_getD, List.getD_eq_getElem?_getD, List.getElem?_append_right hl]
    have hall := List.all_eq_true.mp (show ((u ++ v).take p).all (fun y => may ps y ((u ++ v).getD p 0)) = true from hc)
    rw [hx, List.take_append, List.take_of_length_le hl] at hall
    have hcv : canFirst ps v (p - u.length) = true := by
      unfold canFirst
      rw [ex]
      exact List.all_eq_true.mpr fun y hy => hall y (List.mem_append.mpr (.inr hy))
    have a := first_alike (ps := ps) (show p - u.length < v.length by omega) hcv
    rw [ex] at a
    refine ⟨fun y hy => hall y (List.mem_append.mpr (.inl hy)), _, a, ?_⟩
    rw [List.eraseIdx_append_of_length_le hl] at hr
    exact hr
theorem first_erase {n : Int} {ps : List (Int × Int)} (hok : PairsOk n ps) {a a' : List Int} {x y : Int} (h : Alike ps a (x :: a')) (hy : isFirst ps a y) (ne : y ≠ x) : isFirst ps a' y := by
  obtain ⟨m, hm⟩ := hy
  rcases first_app hok (u := [x]) (v := a') (h.symm.trans hm) with ⟨t, ht⟩ | ⟨_, v, hv, _⟩
  · exfalso
    obtain ⟨_, w⟩ := ht
    have := w.perm.mem_iff.mpr (List.mem_cons_self (a := y) (l := t))
    exact ne (List.mem_singleton.mp this)
  · exact ⟨v, hv⟩
theorem left_firsts {n : Int} {ps : List (Int × Int)} (hok : PairsOk n ps) : ∀ {F a : List Int}, F.Nodup → (∀ x ∈ F, isFirst ps a x) → ∃ s, leftL ps F a = some s
  | [], a, _, _ => ⟨a, rfl⟩
  | x :: F, a, hn, h => by
    have hn' := List.nodup_cons.mp hn
    rw [left_cons]
    cases e : (firstsL ps a).find? (fun q => decide (q.1 = x)) with
    | none => exact absurd (h x List.mem_cons_self) (find_none hok e)
    | some q =>
      obtain ⟨p, hp, hc, hx, rfl⟩ := find_first e
      simp only [Int.toNat_natCast]
      have al := first_alike hp hc
      rw [hx] at al
      exact left_firsts hok hn'.2 fun y hy => first_erase hok al (h y (List.mem_cons_of_mem _ hy)) (fun z => hn'.1 (z ▸ hy))
theorem alike_len {ps : List (Int × Int)} {l m : List Int} (h : Alike ps l m) : l.length = m.length := let ⟨_, w⟩ := h; w.perm.length_eq
end K1
set_option maxRecDepth 10000000
namespace K1
open Pt
end K1
set_option maxRecDepth 10000000
namespace K1
open PySem PySem.Spec PyProof.Rows L2 Pt
local macro_rules
  | `(tactic| walk_at "sz") => `(tactic| first
    | omega
    | decide
    | (simp; omega)
    | (simp [iL, row, pairsD]; omega))
  | `(tactic| walk_at "ea") => `(tactic| first
    | (with_reducible exact ea_nil)
    | ((with_reducible apply ea_consL); (focus (walk_at "ev")); (focus (walk_at "ea")))
    | ((with_reducible apply ea_consS); (focus (walk_at "ev")); (focus (walk_at "ea")))
    | ((with_reducible apply ea_cons); (focus (walk_at "ev")); (focus (walk_at "ea")))
    | ((with_reducible apply ea_consN); (focus (walk_at "en")); (focus (walk_at "ea"))))
  | `(tactic| walk_at "ed") => `(tactic| first
    | (with_reducible exact ed_nil)
    | ((with_reducible apply ed_cons); (focus (walk_at "ev")); (focus (walk_at "ed"))))
  | `(tactic| walk_at "en") => `(tactic| first
    | ((with_reducible apply en_lst); (focus (walk_at "ed")); (focus (simp)))
    | ((with_reducible apply en_listT); (focus (walk_at "ev")))
    | ((with_reducible apply en_addL); (focus (walk_at "ev")); (focus (walk_at "en")); (focus (walk_at "sz")))
    | ((with_reducible apply en_addN); (focus (walk_at "en")); (focus (walk_at "en")); (focus (walk_at "sz")))
    | ((with_reducible apply en_slL); (focus (walk_at "ev")); (focus (walk_at "eo")); (focus (walk_at "eo"))))
  | `(tactic| walk_at "eo") => `(tactic| first
    | (with_reducible exact eo_none)
    | ((with_reducible apply eo_some); (focus (walk_at "ev"))))
  | `(tactic| walk_at "et") => `(tactic| first
    | (with_reducible exact et_yes)
    | ((with_reducible apply et_test); (focus (walk_at "ev")))
    | ((with_reducible apply et_B); (focus (walk_at "ev")))
    | ((with_reducible apply et_truB); (focus (walk_at "ev")))
    | ((with_reducible apply et_truT); (focus (walk_at "ev")))
    | ((with_reducible apply et_not); (focus (walk_at "et")))
    | ((with_reducible apply et_and); (focus (walk_at "et")); (focus (intro _; walk_at "et")))
    | ((with_reducible apply et_or); (focus (walk_at "et")); (focus (intro _; walk_at "et"))))
  | `(tactic| walk_at "var") => `(tactic| first
    | ((with_reducible apply ev_varD); (focus (assumption)); (focus (rfl)))
    | ((with_reducible apply ev_varL); (focus (assumption)); (focus (rfl)))
    | ((with_reducible apply ev_varS); (focus (assumption)); (focus (rfl)))
    | ((with_reducible apply ev_varT); (focus (assumption)); (focus (rfl)))
    | ((with_reducible apply ev_varH); (focus (assumption)); (focus (rfl)))
    | ((with_reducible apply ev_varZ); (focus (assumption)); (focus (rfl))))
  | `(tactic| walk_at "ev") => `(tactic| first
    | walk_at "var"
    | (with_reducible exact ev_int)
    | (with_reducible exact ev_bl)
    | (with_reducible exact ev_str)
    | (with_reducible exact ev_non)
    | ((with_reducible apply ev_letters); (focus (walk_at "ev")))
    | ((with_reducible apply ev_pairs); (focus (walk_at "ev")))
    | ((with_reducible apply ev_addI); (focus (walk_at "ev")); (focus (walk_at "ev")))
    | ((with_reducible apply ev_addT); (focus (walk_at "ev")); (focus (walk_at "ev")); (focus (walk_at "sz")))
    | ((with_reducible apply ev_i0); (focus (walk_at "ev")); (focus (walk_at "ev")); (focus (first | exact fun _ => .int _ | exact fun _ => .bl _)))
    | ((with_reducible apply ev_iC); (focus (walk_at "ev")); (focus (walk_at "ev")); (focus (first | assumption | walk_at "cond")); (focus (exact fun _ => .int _)))
    | ((with_reducible apply ev_chain); (focus (walk_at "ev")); (focus (walk_at "ev")); (focus (walk_at "ev")))
    | ((with_reducible apply ev_eqI); (focus (walk_at "ev")); (focus (walk_at "ev")))
    | ((with_reducible apply ev_neI); (focus (walk_at "ev")); (focus (walk_at "ev")))
    | ((with_reducible apply ev_eqR); (focus (walk_at "ev")); (focus (walk_at "ev")))
    | ((with_reducible apply ev_neR); (focus (walk_at "ev")); (focus (walk_at "ev")))
    | ((with_reducible apply ev_isN); (focus (walk_at "ev")))
    | ((with_reducible apply ev_notN); (focus (walk_at "ev")))
    | ((with_reducible apply ev_in2); (focus (walk_at "ev")); (focus (walk_at "ev")); (focus (walk_at "ev")))
    | ((with_reducible apply ev_inP); (focus (walk_at "ev")); (focus (walk_at "ev")))
    | ((with_reducible apply ev_tup); (focus (walk_at "ed")); (focus (simp)))
    | ((with_reducible apply ev_lenT); (focus (walk_at "ev")))
    | ((with_reducible apply ev_lenL); (focus (walk_at "ev")))
    | ((with_reducible apply ev_lenS); (focus (walk_at "ev")))
    | ((with_reducible apply ev_lenN); (focus (walk_at "en")))
    | ((with_reducible apply ev_max2); (focus (walk_at "ev")); (focus (walk_at "ev")))
    | ((with_reducible apply ev_min2); (focus (walk_at "ev")); (focus (walk_at "ev")))
    | ((with_reducible apply ev_int1); (focus (walk_at "ev")))
    | ((with_reducible apply ev_tupleL); (focus (walk_at "ev")))
    | ((with_reducible apply ev_tupleN); (focus (walk_at "en")))
    | ((with_reducible apply ev_countT); (focus (walk_at "ev")); (focus (walk_at "ev")))
    | ((with_reducible apply ev_andV); (focus (walk_at "ev")); (focus (intro _; walk_at "ev")))
    | ((with_reducible apply ev_orV); (focus (walk_at "ev")); (focus (intro _; walk_at "ev")))
    | ((with_reducible apply ev_notV); (focus (walk_at "ev"))))
section
variable {P : Program} {w : World} {K : PySem.W.Frag} {mg : Str → Option Value} {base : Heap}
end
end K1
set_option maxRecDepth 10000000
namespace K1
open PySem PySem.Spec PyProof.Rows L2 Pt
theorem step_mem_place {ps : List (Int × Int)} {l : List Int} {x : Int} (h : x ∈ stepL ps l) : ∃ p, p < l.length ∧ canFirst ps l p = true ∧ l.getD p 0 = x := by
  obtain ⟨q, hq, rfl⟩ := List.mem_map.mp ((mem_step ps l x).mp h)
  obtain ⟨p, hp, hc, e⟩ := firsts_mem hq
  exact ⟨p, hp, hc, by rw [e]⟩
theorem step_mem {ps : List (Int × Int)} {l : List Int} {x : Int} (h : x ∈ stepL ps l) : x ∈ l := by
  obtain ⟨p, hp, _, rfl⟩ := step_mem_place h
  rw [List.getD_eq_getElem?_getD, List.getElem?_eq_getElem hp]
  exact List.getElem_mem hp
def minRow (p : List Int) (L : List (List Int)) : List Int := L.foldl (fun a y => if y < a then y else a) p
theorem minD_rows (L : List (List Int)) : ∀ p : List Int, PySem.W.minD (row p) (L.map row) = row (minRow p L) := by
  unfold PySem.W.minD minRow
  induction L with
  | nil => intro p; rfl
  | cons y L ih =>
    intro p
    rw [List.map_cons, List.foldl_cons, List.foldl_cons, ← ih, dataLt_row]
    by_cases h : y < p
    · rw [if_pos h, decide_eq_true h, if_pos rfl]
    · rw [if_neg h, decide_eq_false h, if_neg Bool.false_ne_true]
theorem minRow_mem (L : List (List Int)) : ∀ p : List Int, minRow p L ∈ p :: L := by
  unfold minRow
  induction L with
  | nil => intro p; exact List.mem_cons_self
  | cons y L ih =>
    intro p
    rw [List.foldl_cons]
    have := ih (if y < p then y else p)
    by_cases h : y < p
    · rw [if_pos h] at this ⊢
      exact List.mem_cons_of_mem _ this
    · rw [if_neg h] at this ⊢
      rcases List.mem_cons.mp this with z | z
      · rw [z]; exact List.mem_cons_self
      · exact List.mem_cons_of_mem _ (List.mem_cons_of_mem _ z)
theorem minRow_le (L : List (List Int)) : ∀ p : List Int, ∀ q ∈ p :: L, minRow p L ≤ q := by
  unfold minRow
  induction L with
  | nil =>
    intro p q hq
    rw [List.mem_singleton.mp hq]
    exact List.le_refl _
  | cons y L ih =>
    intro p q hq
    rw [List.foldl_cons]
    have key := ih (if y < p then y else p)
    have hp : (if y < p then y else p) ≤ p := by
      by_cases h : y < p
      · rw [if_pos h]; exact List.le_of_lt h
      · rw [if_neg h]; exact List.le_refl _
    have hy : (if y < p then y else p) ≤ y := by
      by_cases h : y < p
      · rw [if_pos h]; exact List.le_refl _
      · rw [if_neg h]; exact List.not_lt.mp h
    rcases List.mem_cons.mp hq with rfl | hq
    · exact List.le_trans (key _ List.mem_cons_self) hp
    · rcases List.mem_cons.mp hq with rfl | hq
      · exact List.le_trans (key _ List.mem_cons_self) hy
      · exact key q (List.mem_cons_of_mem _ hq)
end K1
set_option maxRecDepth 10000000
namespace K1
open PySem PySem.Spec PyProof.Rows L2 Pt
local macro_rules
  | `(tactic| walk_at "sz") => `(tactic| first
    | omega
    | decide
    | (simp; omega)
    | (simp [iL, row, pairsD]; omega))
  | `(tactic| walk_at "ea") => `(tactic| first
    | (with_reducible exact ea_nil)
    | ((with_reducible apply ea_consL); (focus (walk_at "ev")); (focus (walk_at "ea")))
    | ((with_reducible apply ea_consS); (focus (walk_at "ev")); (focus (walk_at "ea")))
    | ((with_reducible apply ea_cons); (focus (walk_at "ev")); (focus (walk_at "ea")))
    | ((with_reducible apply ea_consN); (focus (walk_at "en")); (focus (walk_at "ea"))))
  | `(tactic| walk_at "ed") => `(tactic| first
    | (with_reducible exact ed_nil)
    | ((with_reducible apply ed_cons); (focus (walk_at "ev")); (focus (walk_at "ed"))))
  | `(tactic| walk_at "en") => `(tactic| first
    | ((with_reducible apply en_lst); (focus (walk_at "ed")); (focus (simp)))
    | ((with_reducible apply en_listT); (focus (walk_at "ev")))
    | ((with_reducible apply en_addL); (focus (walk_at "ev")); (focus (walk_at "en")); (focus (walk_at "sz")))
    | ((with_reducible apply en_addN); (focus (walk_at "en")); (focus (walk_at "en")); (focus (walk_at "sz")))
    | ((with_reducible apply en_slL); (focus (walk_at "ev")); (focus (walk_at "eo")); (focus (walk_at "eo"))))
  | `(tactic| walk_at "eo") => `(tactic| first
    | (with_reducible exact eo_none)
    | ((with_reducible apply eo_some); (focus (walk_at "ev"))))
  | `(tactic| walk_at "et") => `(tactic| first
    | (with_reducible exact et_yes)
    | ((with_reducible apply et_test); (focus (walk_at "ev")))
    | ((with_reducible apply et_B); (focus (walk_at "ev")))
    | ((with_reducible apply et_truB); (focus (walk_at "ev")))
    | ((with_reducible apply et_truT); (focus (walk_at "ev")))
    | ((with_reducible apply et_not); (focus (walk_at "et")))
    | ((with_reducible apply et_and); (focus (walk_at "et")); (focus (intro _; walk_at "et")))
    | ((with_reducible apply et_or); (focus (walk_at "et")); (focus (intro _; walk_at "et"))))
  | `(tactic| walk_at "var") => `(tactic| first
    | ((with_reducible apply ev_varD); (focus (assumption)); (focus (rfl)))
    | ((with_reducible apply ev_varL); (focus (assumption)); (focus (rfl)))
    | ((with_reducible apply ev_varS); (focus (assumption)); (focus (rfl)))
    | ((with_reducible apply ev_varT); (focus (assumption)); (focus (rfl)))
    | ((with_reducible apply ev_varH); (focus (assumption)); (focus (rfl)))
    | ((with_reducible apply ev_varZ); (focus (assumption)); (focus (rfl))))
  | `(tactic| walk_at "ev") => `(tactic| first
    | walk_at "var"
    | (with_reducible exact ev_int)
    | (with_reducible exact ev_bl)
    | (with_reducible exact ev_str)
    | (with_reducible exact ev_non)
    | ((with_reducible apply ev_letters); (focus (walk_at "ev")))
    | ((with_reducible apply ev_pairs); (focus (walk_at "ev")))
    | ((with_reducible apply ev_addI); (focus (walk_at "ev")); (focus (walk_at "ev")))
    | ((with_reducible apply ev_addT); (focus (walk_at "ev")); (focus (walk_at "ev")); (focus (walk_at "sz")))
    | ((with_reducible apply ev_i0); (focus (walk_at "ev")); (focus (walk_at "ev")); (focus (first | exact fun _ => .int _ | exact fun _ => .bl _)))
    | ((with_reducible apply ev_iC); (focus (walk_at "ev")); (focus (walk_at "ev")); (focus (first | assumption | walk_at "cond")); (focus (exact fun _ => .int _)))
    | ((with_reducible apply ev_chain); (focus (walk_at "ev")); (focus (walk_at "ev")); (focus (walk_at "ev")))
    | ((with_reducible apply ev_eqI); (focus (walk_at "ev")); (focus (walk_at "ev")))
    | ((with_reducible apply ev_neI); (focus (walk_at "ev")); (focus (walk_at "ev")))
    | ((with_reducible apply ev_eqR); (focus (walk_at "ev")); (focus (walk_at "ev")))
    | ((with_reducible apply ev_neR); (focus (walk_at "ev")); (focus (walk_at "ev")))
    | ((with_reducible apply ev_isN); (focus (walk_at "ev")))
    | ((with_reducible apply ev_notN); (focus (walk_at "ev")))
    | ((with_reducible apply ev_in2); (focus (walk_at "ev")); (focus (walk_at "ev")); (focus (walk_at "ev")))
    | ((with_reducible apply ev_inP); (focus (walk_at "ev")); (focus (walk_at "ev")))
    | ((with_reducible apply ev_tup); (focus (walk_at "ed")); (focus (simp)))
    | ((with_reducible apply ev_lenT); (focus (walk_at "ev")))
    | ((with_reducible apply ev_lenL); (focus (walk_at "ev")))
    | ((with_reducible apply ev_lenS); (focus (walk_at "ev")))
    | ((with_reducible apply ev_lenN); (focus (walk_at "en")))
    | ((with_reducible apply ev_max2); (focus (walk_at "ev")); (focus (walk_at "ev")))
    | ((with_reducible apply ev_min2); (focus (walk_at "ev")); (focus (walk_at "ev")))
    | ((with_reducible apply ev_int1); (focus (walk_at "ev")))
    | ((with_reducible apply ev_tupleL); (focus (walk_at "ev")))
    | ((with_reducible apply ev_tupleN); (focus (walk_at "en")))
    | ((with_reducible apply ev_countT); (focus (walk_at "ev")); (focus (walk_at "ev")))
    | ((with_reducible apply ev_andV); (focus (walk_at "ev")); (focus (intro _; walk_at "ev")))
    | ((with_reducible apply ev_orV); (focus (walk_at "ev")); (focus (intro _; walk_at "ev")))
    | ((with_reducible apply ev_notV); (focus (walk_at "ev"))))
section
variable {P : Program} {w : World} {K : PySem.W.Frag} {mg : Str → Option Value} {base : Heap}
end
end K1
set_option maxRecDepth 10000000
namespace K1
open PySem PySem.Spec PyProof.Rows L2 Pt
local macro_rules
  | `(tactic| walk_at "sz") => `(tactic| first
    | omega
    | decide
    | (simp; omega)
    | (simp [iL, row, pairsD]; omega))
  | `(tactic| walk_at "ea") => `(tactic| first
    | (with_reducible exact ea_nil)
    | ((with_reducible apply ea_consL); (focus (walk_at "ev")); (focus (walk_at "ea")))
    | ((with_reducible apply ea_consS); (focus (walk_at "ev")); (focus (walk_at "ea")))
    | ((with_reducible apply ea_cons); (focus (walk_at "ev")); (focus (walk_at "ea")))
    | ((with_reducible apply ea_consN); (focus (walk_at "en")); (focus (walk_at "ea"))))
  | `(tactic| walk_at "ed") => `(tactic| first
    | (with_reducible exact ed_nil)
    | ((with_reducible apply ed_cons); (focus (walk_at "ev")); (focus (walk_at "ed"))))
  | `(tactic| walk_at "en") => `(tactic| first
    | ((with_reducible apply en_lst); (focus (walk_at "ed")); (focus (simp)))
    | ((with_reducible apply en_listT); (focus (walk_at "ev")))
    | ((with_reducible apply en_addL); (focus (walk_at "ev")); (focus (walk_at "en")); (focus (walk_at "sz")))
    | ((with_reducible apply en_addN); (focus (walk_at "en")); (focus (walk_at "en")); (focus (walk_at "sz")))
    | ((with_reducible apply en_slL); (focus (walk_at "ev")); (focus (walk_at "eo")); (focus (walk_at "eo"))))
  | `(tactic| walk_at "eo") => `(tactic| first
    | (with_reducible exact eo_none)
    | ((with_reducible apply eo_some); (focus (walk_at "ev"))))
  | `(tactic| walk_at "et") => `(tactic| first
    | (with_reducible exact et_yes)
    | ((with_reducible apply et_test); (focus (walk_at "ev")))
    | ((with_reducible apply et_B); (focus (walk_at "ev")))
    | ((with_reducible apply et_truB); (focus (walk_at "ev")))
    | ((with_reducible apply et_truT); (focus (walk_at "ev")))
    | ((with_reducible apply et_not); (focus (walk_at "et")))
    | ((with_reducible apply et_and); (focus (walk_at "et")); (focus (intro _; walk_at "et")))
    | ((with_reducible apply et_or); (focus (walk_at "et")); (focus (intro _; walk_at "et"))))
  | `(tactic| walk_at "var") => `(tactic| first
    | ((with_reducible apply ev_varD); (focus (assumption)); (focus (rfl)))
    | ((with_reducible apply ev_varL); (focus (assumption)); (focus (rfl)))
    | ((with_reducible apply ev_varS); (focus (assumption)); (focus (rfl)))
    | ((with_reducible apply ev_varT); (focus (assumption)); (focus (rfl)))
    | ((with_reducible apply ev_varH); (focus (assumption)); (focus (rfl)))
    | ((with_reducible apply ev_varZ); (focus (assumption)); (focus (rfl))))
  | `(tactic| walk_at "ev") => `(tactic| first
    | walk_at "var"
    | (with_reducible exact ev_int)
    | (with_reducible exact ev_bl)
    | (with_reducible exact ev_str)
    | (with_reducible exact ev_non)
    | ((with_reducible apply ev_letters); (focus (walk_at "ev")))
    | ((with_reducible apply ev_pairs); (focus (walk_at "ev")))
    | ((with_reducible apply ev_addI); (focus (walk_at "ev")); (focus (walk_at "ev")))
    | ((with_reducible apply ev_addT); (focus (walk_at "ev")); (focus (walk_at "ev")); (focus (walk_at "sz")))
    | ((with_reducible apply ev_i0); (focus (walk_at "ev")); (focus (walk_at "ev")); (focus (first | exact fun _ => .int _ | exact fun _ => .bl _)))
    | ((with_reducible apply ev_iC); (focus (walk_at "ev")); (focus (walk_at "ev")); (focus (first | assumption | walk_at "cond")); (focus (exact fun _ => .int _)))
    | ((with_reducible apply ev_chain); (focus (walk_at "ev")); (focus (walk_at "ev")); (focus (walk_at "ev")))
    | ((with_reducible apply ev_eqI); (focus (walk_at "ev")); (focus (walk_at "ev")))
    | ((with_reducible apply ev_neI); (focus (walk_at "ev")); (focus (walk_at "ev")))
    | ((with_reducible apply ev_eqR); (focus (walk_at "ev")); (focus (walk_at "ev")))
    | ((with_reducible apply ev_neR); (focus (walk_at "ev")); (focus (walk_at "ev")))
    | ((with_reducible apply ev_isN); (focus (walk_at "ev")))
    | ((with_reducible apply ev_notN); (focus (walk_at "ev")))
    | ((with_reducible apply ev_in2); (focus (walk_at "ev")); (focus (walk_at "ev")); (focus (walk_at "ev")))
    | ((with_reducible apply ev_inP); (focus (walk_at "ev")); (focus (walk_at "ev")))
    | ((with_reducible apply ev_tup); (focus (walk_at "ed")); (focus (simp)))
    | ((with_reducible apply ev_lenT); (focus (walk_at "ev")))
    | ((with_reducible apply ev_lenL); (focus (walk_at "ev")))
    | ((with_reducible apply ev_lenS); (focus (walk_at "ev")))
    | ((with_reducible apply ev_lenN); (focus (walk_at "en")))
    | ((with_reducible apply ev_max2); (focus (walk_at "ev")); (focus (walk_at "ev")))
    | ((with_reducible apply ev_min2); (focus (walk_at "ev")); (focus (walk_at "ev")))
    | ((with_reducible apply ev_int1); (focus (walk_at "ev")))
    | ((with_reducible apply ev_tupleL); (focus (walk_at "ev")))
    | ((with_reducible apply ev_tupleN); (focus (walk_at "en")))
    | ((with_reducible apply ev_countT); (focus (walk_at "ev")); (focus (walk_at "ev")))
    | ((with_reducible apply ev_andV); (focus (walk_at "ev")); (focus (intro _; walk_at "ev")))
    | ((with_reducible apply ev_orV); (focus (walk_at "ev")); (focus (intro _; walk_at "ev")))
    | ((with_reducible apply ev_notV); (focus (walk_at "ev"))))
section
variable {P : Program} {w : World} {K : PySem.W.Frag} {mg : Str → Option Value} {base : Heap}
end
end K1
namespace K1
open PySem PySem.Spec PyProof.Rows L2 Pt
def sg (S : List Int) : Int := if S.length % 2 = 0 then 1 else -1
theorem sg_cons (x : Int) (S : List Int) : sg (x :: S) = - sg S := by
  unfold sg
  rw [List.length_cons]
  rcases Nat.mod_two_eq_zero_or_one S.length with h | h
  · rw [if_neg (by omega), if_pos h]
  · rw [if_pos (by omega), if_neg (by omega)]; rfl
theorem sum_app (l m : List Int) : (l ++ m).sum = l.sum + m.sum := List.sum_append
theorem sum_perm {l m : List Int} (h : l.Perm m) : l.sum = m.sum := by
  induction h with
  | nil => rfl
  | cons x _ ih => rw [List.sum_cons, List.sum_cons, ih]
  | swap x y l => rw [List.sum_cons, List.sum_cons, List.sum_cons, List.sum_cons]; omega
  | trans _ _ i j => exact i.trans j
theorem subs_sum : ∀ (x : Int) (l : List Int), ((subs (x :: l)).map sg).sum = 0 := fun x l => by
  unfold subs
  rw [List.map_append, sum_app, List.map_map]
  have : ∀ L : List (List Int), (L.map (sg ∘ (x :: ·))).sum = - (L.map sg).sum := fun L => by
    induction L with
    | nil => rfl
    | cons S L ih =>
      rw [List.map_cons, List.map_cons, List.sum_cons, List.sum_cons, ih]
      show sg (x :: S) + _ = _
      rw [sg_cons]
      omega
  rw [this]
  omega
theorem ind_sum {α : Type} (c : Int) (p : α → Bool) : ∀ U : List α, (U.map fun u => if p u = true then c else 0).sum = c * ((U.filter p).length : Int)
  | [] => by simp
  | u :: U => by
    rw [List.map_cons, List.sum_cons, ind_sum c p U]
    cases e : p u with
    | true =>
      rw [if_pos rfl, List.filter_cons_of_pos e, List.length_cons, Int.natCast_add, Int.mul_add]
      simp
      omega
    | false => rw [if_neg Bool.false_ne_true, List.filter_cons_of_neg (by rw [e]; exact Bool.false_ne_true)]; omega
theorem map_sum_add {α : Type} (f g : α → Int) : ∀ U : List α, (U.map fun u => f u + g u).sum = (U.map f).sum + (U.map g).sum
  | [] => rfl
  | u :: U => by
    rw [List.map_cons, List.map_cons, List.map_cons, List.sum_cons, List.sum_cons, List.sum_cons, map_sum_add f g U]
    omega
theorem swap_sum {α : Type} (p : List Int → α → Bool) (U : List α) : ∀ G : List (List Int), (G.map fun S => sg S * ((U.filter (p S)).length : Int)).sum = (U.map fun u => ((G.filter fun S => p S u).map sg).sum).sum
  | [] => by
    have : ∀ U : List α, (U.map fun u => (((([] : List (List Int)).filter fun S => p S u)).map sg).sum).sum = 0 := fun U => by
      induction U with
      | nil => rfl
      | cons u U ih => rw [List.map_cons, List.sum_cons, ih]; rfl
    rw [this]
    rfl
  | S :: G => by
    rw [List.map_cons, List.sum_cons, swap_sum p U G, ← ind_sum (sg S) (p S) U, ← map_sum_add]
    congr 1
    refine List.map_congr_left fun u _ => ?_
    cases e : p S u with
    | true => rw [if_pos rfl, List.filter_cons_of_pos (p := fun S => p S u) e, List.map_cons, List.sum_cons]
    | false => rw [if_neg Bool.false_ne_true, List.filter_cons_of_neg (p := fun S => p S u) (by rw [e]; exact Bool.false_ne_true)]; omega
theorem subs_mem : ∀ {l S : List Int}, S ∈ subs l → S.Sublist l
  | [], S, h => by
    have : S = [] := by simpa [subs] using h
    rw [this]
    exact List.Sublist.refl _
  | x :: l, S, h => by
    unfold subs at h
    rcases List.mem_append.mp h with h | h
    · obtain ⟨T, hT, rfl⟩ := List.mem_map.mp h
      exact (subs_mem hT).cons₂ x
    · exact (subs_mem h).cons x
theorem subs_nodup : ∀ {l : List Int}, l.Nodup → (subs l).Nodup
  | [], _ => by simp [subs]
  | x :: l, h => by
    have h' := List.nodup_cons.mp h
    unfold subs
    refine List.nodup_append.mpr ⟨?_, subs_nodup h'.2, fun S hS T hT e => ?_⟩
    · exact List.pairwise_map.mpr ((subs_nodup h'.2).imp fun ne e => ne (List.cons.inj e).2)
    · obtain ⟨R, _, rfl⟩ := List.mem_map.mp hS
      rw [← e] at hT
      exact h'.1 ((subs_mem hT).subset List.mem_cons_self)
def isGroup (ps : List (Int × Int)) (S : List Int) : Prop := S.Pairwise (· < ·) ∧ ∀ a ∈ S, ∀ b ∈ S, a ≠ b → may ps a b = true
structure Groups (n : Int) (ps : List (Int × Int)) (G : List (List Int)) : Prop where
  nd : G.Nodup
  mem : ∀ S, S ∈ G ↔ rowIn n S ∧ isGroup ps S
abbrev inStep (ps : List (Int × Int)) (S u : List Int) : Bool := S.all fun x => decide (x ∈ stepL ps u)
theorem strict_sub : ∀ {S l : List Int}, S.Pairwise (· < ·) → l.Pairwise (· < ·) → (∀ x ∈ S, x ∈ l) → S.Sublist l
  | [], l, _, _, _ => List.nil_sublist l
  | x :: S, [], _, _, h => by have := h x List.mem_cons_self; cases this
  | x :: S, y :: l, hS, hl, h => by
    obtain ⟨s1, s2⟩ := List.pairwise_cons.mp hS
    obtain ⟨l1, l2⟩ := List.pairwise_cons.mp hl
    by_cases e : x = y
    · subst e
      refine (strict_sub s2 l2 fun z hz => ?_).cons₂ x
      rcases List.mem_cons.mp (h z (List.mem_cons_of_mem _ hz)) with r | r
      · have := s1 z hz; omega
      · exact r
    · have hx : x ∈ l := (List.mem_cons.mp (h x List.mem_cons_self)).resolve_left e
      refine (strict_sub hS l2 fun z hz => ?_).cons y
      have hyx := l1 x hx
      rcases List.mem_cons.mp hz with rfl | hz'
      · exact hx
      · rcases List.mem_cons.mp (h z hz) with r | r
        · have := s1 z hz'; omega
        · exact r
theorem groups_of {n : Int} {ps : List (Int × Int)} (hok : PairsOk n ps) {G : List (List Int)} (hG : Groups n ps G) {u : List Int} (hu : rowIn n u) : (G.filter fun S => inStep ps S u).Perm (subs (stepL ps u)) := by
  have hs := stepL_strict hok u
  refine (List.perm_ext_iff_of_nodup (hG.nd.filter _) (subs_nodup (hs.imp fun h e => by omega))).mpr fun S => ?_
  rw [List.mem_filter, hG.mem]
  constructor
  · rintro ⟨⟨_, h1, _⟩, h2⟩
    refine mem_subs (strict_sub h1 hs fun x hx => ?_)
    have := List.all_eq_true.mp h2 x hx
    exact of_decide_eq_true this
  · intro h
    have sub := subs_mem h
    refine ⟨⟨fun x hx => hu x (step_mem (sub.subset hx)), hs.sublist sub, fun a ha b hb ne => step_free hok (sub.subset ha) (sub.subset hb) ne⟩, List.all_eq_true.mpr fun x hx => decide_eq_true (sub.subset hx)⟩
theorem row_sum {n : Int} {ps : List (Int × Int)} (hok : PairsOk n ps) {G : List (List Int)} (hG : Groups n ps G) {u : List Int} (hu : rowIn n u) (hne : u ≠ []) : ((G.filter fun S => inStep ps S u).map sg).sum = 0 := by
  rw [sum_perm ((groups_of hok hG hu).map sg)]
  cases e : stepL ps u with
  | nil => exact absurd e (step_ne hne)
  | cons x l => exact subs_sum x l
end K1
set_option maxRecDepth 10000000
namespace K1
open PySem PySem.Spec PyProof.Rows L2 Pt
theorem swap_alike {n : Int} {ps : List (Int × Int)} (hok : PairsOk n ps) {u v : List Int} (h : ∀ x ∈ u, ∀ y ∈ v, may ps x y = true) : Alike ps (u ++ v) (v ++ u) := by
  have hp : (u ++ v).Perm (v ++ u) := List.perm_append_comm
  refine (alike_iff hok).mpr ⟨hp, fun a b ne hm => ?_⟩
  rw [only_app, only_app]
  by_cases h1 : onlyL u a b = []
  · rw [h1, List.append_nil, List.nil_append]
  by_cases h2 : onlyL v a b = []
  · rw [h2, List.append_nil, List.nil_append]
  obtain ⟨x, hx⟩ := List.exists_mem_of_ne_nil _ h1
  obtain ⟨y, hy⟩ := List.exists_mem_of_ne_nil _ h2
  obtain ⟨mx, dx⟩ := List.mem_filter.mp hx
  obtain ⟨my, dy⟩ := List.mem_filter.mp hy
  have hxy := h x mx y my
  have nxy : x ≠ y := may_ne hok hxy
  rcases of_decide_eq_true dx with rfl | rfl
  · rcases of_decide_eq_true dy with rfl | rfl
    · exact absurd rfl nxy
    · rw [hxy] at hm; cases hm
  · rcases of_decide_eq_true dy with rfl | rfl
    · rw [may_comm, hxy] at hm; cases hm
    · exact absurd rfl nxy
theorem nodup_le {l : List Int} : ∀ {m : List Int}, m.Nodup → (∀ x ∈ m, x ∈ l) → m.length ≤ l.length := by
  intro m h s
  induction m generalizing l with
  | nil => exact Nat.zero_le _
  | cons x m ih =>
    obtain ⟨h1, h2⟩ := List.nodup_cons.mp h
    have hx := s x List.mem_cons_self
    have := ih (l := l.erase x) h2 fun y hy => (List.mem_erase_of_ne (fun e => h1 (by rw [← e]; exact hy))).mpr (s y (List.mem_cons_of_mem _ hy))
    rw [List.length_erase_of_mem hx] at this
    have hp := List.length_pos_of_mem hx
    simp only [List.length_cons]
    omega
end K1
namespace K1
open PySem PySem.Spec PyProof.Rows L2 Pt
structure LRows (n : Int) (ps : List (Int × Int)) (k : Nat) (U : List (List Int)) : Prop where
  nd : U.Nodup
  mem : ∀ u, u ∈ U ↔ rowIn n u ∧ u.length = k ∧ leastL ps u = u
theorem least_perm (ps : List (Int × Int)) (l : List Int) : l.Perm (leastL ps l) := let ⟨_, wk⟩ := least_alike ps l; wk.perm
theorem least_fix {n : Int} {ps : List (Int × Int)} (hok : PairsOk n ps) (l : List Int) : leastL ps (leastL ps l) = leastL ps l := (least_same hok (least_alike ps l)).symm
theorem group_first {n : Int} {ps : List (Int × Int)} (hok : PairsOk n ps) {S : List Int} (hS : isGroup ps S) (t : List Int) : ∀ x ∈ S, isFirst ps (S ++ t) x := fun x hx => by
  obtain ⟨a, b, rfl⟩ := List.append_of_mem hx
  have hlt := (List.pairwise_append.mp hS.1).2.2
  have sw : Alike ps (a ++ [x]) ([x] ++ a) := swap_alike hok fun y hy z hz => by
    rw [List.mem_singleton.mp hz]
    have : y < x := hlt y hy x List.mem_cons_self
    exact hS.2 y (List.mem_append.mpr (.inl hy)) x (List.mem_append.mpr (.inr List.mem_cons_self)) (by omega)
  refine ⟨a ++ (b ++ t), ?_⟩
  have e := sw.appR hok (b ++ t)
  rw [List.append_assoc, List.append_assoc] at e
  rw [List.append_assoc]
  exact e
theorem step_first {n : Int} {ps : List (Int × Int)} (hok : PairsOk n ps) {u : List Int} {x : Int} : x ∈ stepL ps u ↔ isFirst ps u x := (mem_step ps u x).trans (isFirst_iff hok)
theorem group_rows {n : Int} {ps : List (Int × Int)} (hok : PairsOk n ps) {S : List Int} (hin : rowIn n S) (hS : isGroup ps S) {k : Nat} {U V : List (List Int)} (hk : S.length ≤ k) (hU : LRows n ps k U) (hV : LRows n ps (k - S.length) V) : (U.filter (inStep ps S)).length = V.length := by
  have nS : S.Nodup := hS.1.imp fun h e => by omega
  have p : (U.filter (inStep ps S)).Perm (V.map fun t => leastL ps (S ++ t)) := by
    refine (List.perm_ext_iff_of_nodup (hU.nd.filter _) ?_).mpr fun u => ?_
    · have key : ∀ W : List (List Int), W.Nodup → (∀ t ∈ W, leastL ps t = t) → (W.map fun t => leastL ps (S ++ t)).Nodup := fun W => by
        induction W with
        | nil => intro _ _; exact List.nodup_nil
        | cons t W ih =>
          intro nd hW
          have nd' := List.nodup_cons.mp nd
          refine List.nodup_cons.mpr ⟨fun hm => nd'.1 ?_, ih nd'.2 fun t ht => hW t (List.mem_cons_of_mem _ ht)⟩
          obtain ⟨t', ht', e⟩ := List.mem_map.mp hm
          have e : leastL ps (S ++ t') = leastL ps (S ++ t) := e
          have al : Alike ps (S ++ t') (S ++ t) := ((least_alike ps _).trans (by rw [e]; exact .refl _ _)).trans (least_alike ps (S ++ t)).symm
          have := least_same hok (app_cancel hok al)
          rw [hW t' (List.mem_cons_of_mem _ ht'), hW t List.mem_cons_self] at this
          rw [← this]
          exact ht'
      exact key V hV.nd fun t ht => ((hV.mem t).mp ht).2.2
    · rw [List.mem_filter, hU.mem, List.mem_map]
      constructor
      · rintro ⟨⟨h1, h2, h3⟩, h4⟩
        have hf : ∀ x ∈ S, isFirst ps u x := fun x hx => (step_first hok).mp (of_decide_eq_true (List.all_eq_true.mp h4 x hx))
        obtain ⟨s, hs⟩ := left_firsts hok nS hf
        obtain ⟨al, sub⟩ := left_some hs
        have hlen : u.length = S.length + s.length := by
          obtain ⟨_, wk⟩ := id al
          rw [wk.perm.length_eq, List.length_append]
        refine ⟨leastL ps s, (hV.mem _).mpr ⟨fun x hx => h1 x (sub.subset ((least_perm ps s).mem_iff.mpr hx)), by rw [← (least_perm ps s).length_eq]; omega, least_fix hok s⟩, ?_⟩
        rw [← h3]
        exact (least_same hok (al.trans ((least_alike ps s).app S))).symm
      · rintro ⟨t, ht, rfl⟩
        obtain ⟨h1, h2, h3⟩ := (hV.mem t).mp ht
        have pm := least_perm ps (S ++ t)
        refine ⟨⟨fun x hx => (List.mem_append.mp (pm.mem_iff.mpr hx)).elim (hin x) (h1 x), by rw [← pm.length_eq, List.length_append]; omega, least_fix hok _⟩, List.all_eq_true.mpr fun x hx => decide_eq_true ?_⟩
        obtain ⟨m, hm⟩ := group_first hok hS t x hx
        exact (step_first hok).mpr ⟨m, (least_alike ps (S ++ t)).symm.trans hm⟩
  rw [p.length_eq, List.length_map]
theorem group_none {n : Int} {ps : List (Int × Int)} {S : List Int} (hS : isGroup ps S) {k : Nat} {U : List (List Int)} (hk : k < S.length) (hU : LRows n ps k U) : U.filter (inStep ps S) = [] := by
  rw [List.filter_eq_nil_iff]
  intro u hu h
  have h2 := ((hU.mem u).mp hu).2.1
  have nS : S.Nodup := hS.1.imp fun h e => by omega
  have := K1.nodup_le (l := u) nS fun x hx => step_mem (of_decide_eq_true (List.all_eq_true.mp h x hx))
  omega
theorem rows_rule {n : Int} {ps : List (Int × Int)} (hok : PairsOk n ps) {G : List (List Int)} (hG : Groups n ps G) {U : Nat → List (List Int)} (hU : ∀ k, LRows n ps k (U k)) {k : Nat} (hk : 0 < k) :
    (G.map fun S => sg S * (if S.length ≤ k then ((U (k - S.length)).length : Int) else 0)).sum = 0 := by
  have e : (G.map fun S => sg S * (if S.length ≤ k then ((U (k - S.length)).length : Int) else 0)) = G.map fun S => sg S * (((U k).filter (inStep ps S)).length : Int) := List.map_congr_left fun S hS => by
    obtain ⟨h1, h2⟩ := (hG.mem S).mp hS
    by_cases z : S.length ≤ k
    · rw [if_pos z, group_rows hok h1 h2 z (hU k) (hU _)]
    · rw [if_neg z, group_none h2 (by omega) (hU k)]
      rfl
  rw [e, swap_sum]
  have zero : ∀ L : List (List Int), (∀ u ∈ L, u ∈ U k) → (L.map fun u => ((G.filter fun S => inStep ps S u).map sg).sum).sum = 0 := fun L => by
    induction L with
    | nil => intro _; rfl
    | cons u L ih =>
      intro h
      obtain ⟨h1, h2, _⟩ := ((hU k).mem u).mp (h u List.mem_cons_self)
      rw [List.map_cons, List.sum_cons, ih fun u hu => h u (List.mem_cons_of_mem _ hu), row_sum hok hG h1 fun e => by rw [e] at h2; simp at h2; omega]
      rfl
  exact zero (U k) fun u h => h
end K1
namespace K1
open PySem PySem.Spec PyProof.Rows L2 Pt
theorem sum_congr {α : Type} {f g : α → Int} {l : List α} (h : ∀ x ∈ l, f x = g x) : (l.map f).sum = (l.map g).sum := congrArg List.sum (List.map_congr_left h)
end K1
namespace K1
open PySem PySem.Spec PyProof.Rows L2 Pt
local macro_rules
  | `(tactic| walk_at "sz") => `(tactic| first
    | omega
    | decide
    | (simp; omega)
    | (simp [iL, row, pairsD]; omega))
  | `(tactic| walk_at "ea") => `(tactic| first
    | (with_reducible exact ea_nil)
    | ((with_reducible apply ea_consL); (focus (walk_at "ev")); (focus (walk_at "ea")))
    | ((with_reducible apply ea_consS); (focus (walk_at "ev")); (focus (walk_at "ea")))
    | ((with_reducible apply ea_cons); (focus (walk_at "ev")); (focus (walk_at "ea")))
    | ((with_reducible apply ea_consN); (focus (walk_at "en")); (focus (walk_at "ea"))))
  | `(tactic| walk_at "ed") => `(tactic| first
    | (with_reducible exact ed_nil)
    | ((with_reducible apply ed_cons); (focus (walk_at "ev")); (focus (walk_at "ed"))))
  | `(tactic| walk_at "en") => `(tactic| first
    | ((with_reducible apply en_lst); (focus (walk_at "ed")); (focus (simp)))
    | ((with_reducible apply en_listT); (focus (walk_at "ev")))
    | ((with_reducible apply en_addL); (focus (walk_at "ev")); (focus (walk_at "en")); (focus (walk_at "sz")))
    | ((with_reducible apply en_addN); (focus (walk_at "en")); (focus (walk_at "en")); (focus (walk_at "sz")))
    | ((with_reducible apply en_slL); (focus (walk_at "ev")); (focus (walk_at "eo")); (focus (walk_at "eo"))))
  | `(tactic| walk_at "eo") => `(tactic| first
    | (with_reducible exact eo_none)
    | ((with_reducible apply eo_some); (focus (walk_at "ev"))))
  | `(tactic| walk_at "et") => `(tactic| first
    | (with_reducible exact et_yes)
    | ((with_reducible apply et_test); (focus (walk_at "ev")))
    | ((with_reducible apply et_B); (focus (walk_at "ev")))
    | ((with_reducible apply et_truB); (focus (walk_at "ev")))
    | ((with_reducible apply et_truT); (focus (walk_at "ev")))
    | ((with_reducible apply et_not); (focus (walk_at "et")))
    | ((with_reducible apply et_and); (focus (walk_at "et")); (focus (intro _; walk_at "et")))
    | ((with_reducible apply et_or); (focus (walk_at "et")); (focus (intro _; walk_at "et"))))
  | `(tactic| walk_at "var") => `(tactic| first
    | ((with_reducible apply ev_varD); (focus (assumption)); (focus (rfl)))
    | ((with_reducible apply ev_varL); (focus (assumption)); (focus (rfl)))
    | ((with_reducible apply ev_varS); (focus (assumption)); (focus (rfl)))
    | ((with_reducible apply ev_varT); (focus (assumption)); (focus (rfl)))
    | ((with_reducible apply ev_varH); (focus (assumption)); (focus (rfl)))
    | ((with_reducible apply ev_varZ); (focus (assumption)); (focus (rfl))))
  | `(tactic| walk_at "ev") => `(tactic| first
    | walk_at "var"
    | (with_reducible exact ev_int)
    | (with_reducible exact ev_bl)
    | (with_reducible exact ev_str)
    | (with_reducible exact ev_non)
    | ((with_reducible apply ev_letters); (focus (walk_at "ev")))
    | ((with_reducible apply ev_pairs); (focus (walk_at "ev")))
    | ((with_reducible apply ev_addI); (focus (walk_at "ev")); (focus (walk_at "ev")))
    | ((with_reducible apply ev_addT); (focus (walk_at "ev")); (focus (walk_at "ev")); (focus (walk_at "sz")))
    | ((with_reducible apply ev_i0); (focus (walk_at "ev")); (focus (walk_at "ev")); (focus (first | exact fun _ => .int _ | exact fun _ => .bl _)))
    | ((with_reducible apply ev_iC); (focus (walk_at "ev")); (focus (walk_at "ev")); (focus (first | assumption | walk_at "cond")); (focus (exact fun _ => .int _)))
    | ((with_reducible apply ev_chain); (focus (walk_at "ev")); (focus (walk_at "ev")); (focus (walk_at "ev")))
    | ((with_reducible apply ev_eqI); (focus (walk_at "ev")); (focus (walk_at "ev")))
    | ((with_reducible apply ev_neI); (focus (walk_at "ev")); (focus (walk_at "ev")))
    | ((with_reducible apply ev_eqR); (focus (walk_at "ev")); (focus (walk_at "ev")))
    | ((with_reducible apply ev_neR); (focus (walk_at "ev")); (focus (walk_at "ev")))
    | ((with_reducible apply ev_isN); (focus (walk_at "ev")))
    | ((with_reducible apply ev_notN); (focus (walk_at "ev")))
    | ((with_reducible apply ev_in2); (focus (walk_at "ev")); (focus (walk_at "ev")); (focus (walk_at "ev")))
    | ((with_reducible apply ev_inP); (focus (walk_at "ev")); (focus (walk_at "ev")))
    | ((with_reducible apply ev_tup); (focus (walk_at "ed")); (focus (simp)))
    | ((with_reducible apply ev_lenT); (focus (walk_at "ev")))
    | ((with_reducible apply ev_lenL); (focus (walk_at "ev")))
    | ((with_reducible apply ev_lenS); (focus (walk_at "ev")))
    | ((with_reducible apply ev_lenN); (focus (walk_at "en")))
    | ((with_reducible apply ev_max2); (focus (walk_at "ev")); (focus (walk_at "ev")))
    | ((with_reducible apply ev_min2); (focus (walk_at "ev")); (focus (walk_at "ev")))
    | ((with_reducible apply ev_int1); (focus (walk_at "ev")))
    | ((with_reducible apply ev_tupleL); (focus (walk_at "ev")))
    | ((with_reducible apply ev_tupleN); (focus (walk_at "en")))
    | ((with_reducible apply ev_countT); (focus (walk_at "ev")); (focus (walk_at "ev")))
    | ((with_reducible apply ev_andV); (focus (walk_at "ev")); (focus (intro _; walk_at "ev")))
    | ((with_reducible apply ev_orV); (focus (walk_at "ev")); (focus (intro _; walk_at "ev")))
    | ((with_reducible apply ev_notV); (focus (walk_at "ev"))))
abbrev joins (ps : List (Int × Int)) (S : List Int) (a : Int) : Bool := S.all fun x => may ps x a
def grL (ps : List (Int × Int)) : Nat → List (List Int)
  | 0 => [[]]
  | k + 1 => grL ps k ++ ((grL ps k).filter fun S => joins ps S (k : Nat)).map fun S => S ++ [((k : Nat) : Int)]
theorem gr_len (ps : List (Int × Int)) : ∀ k, (grL ps k).length ≤ 2 ^ k
  | 0 => Nat.le_refl _
  | k + 1 => by
    have ih := gr_len ps k
    have h2 := List.length_filter_le (fun S => joins ps S (k : Nat)) (grL ps k)
    unfold grL
    rw [List.length_append, List.length_map, Nat.pow_succ]
    omega
theorem gr_lt (ps : List (Int × Int)) : ∀ k, ∀ S ∈ grL ps k, ∀ x ∈ S, 0 ≤ x ∧ x < (k : Nat)
  | 0, S, h, x, hx => by
    have : S = [] := by simpa [grL] using h
    rw [this] at hx
    cases hx
  | k + 1, S, h, x, hx => by
    unfold grL at h
    rcases List.mem_append.mp h with h | h
    · have := gr_lt ps k S h x hx; omega
    · obtain ⟨T, hT, rfl⟩ := List.mem_map.mp h
      rcases List.mem_append.mp hx with hx | hx
      · have := gr_lt ps k T (List.mem_filter.mp hT).1 x hx; omega
      · rw [List.mem_singleton.mp hx]; omega
theorem gr_size (ps : List (Int × Int)) : ∀ k, ∀ S ∈ grL ps k, S.length ≤ k
  | 0, S, h => by
    have : S = [] := by simpa [grL] using h
    rw [this]; exact Nat.le_refl _
  | k + 1, S, h => by
    unfold grL at h
    rcases List.mem_append.mp h with h | h
    · exact Nat.le_succ_of_le (gr_size ps k S h)
    · obtain ⟨T, hT, rfl⟩ := List.mem_map.mp h
      rw [List.length_append]
      exact Nat.succ_le_succ (gr_size ps k T (List.mem_filter.mp hT).1)
theorem gr_groups {n : Int} {ps : List (Int × Int)} : ∀ k : Nat, Groups (k : Nat) ps (grL ps k)
  | 0 => ⟨by simp [grL], fun S => by
    unfold grL
    rw [List.mem_singleton]
    constructor
    · rintro rfl; exact ⟨fun x hx => (by cases hx), List.Pairwise.nil, fun a ha => (by cases ha)⟩
    · rintro ⟨h, _⟩
      cases S with
      | nil => rfl
      | cons x S => have := h x List.mem_cons_self; omega⟩
  | k + 1 => by
    obtain ⟨i1, i2⟩ := gr_groups (n := n) (ps := ps) k
    refine ⟨?_, fun S => ?_⟩
    · unfold grL
      refine List.nodup_append.mpr ⟨i1, List.pairwise_map.mpr ((i1.filter _).imp fun ne e => ne (List.append_cancel_right e)), fun S hS T hT e => ?_⟩
      obtain ⟨R, _, rfl⟩ := List.mem_map.mp hT
      have := gr_lt ps k S hS (k : Nat) (by rw [e]; simp)
      omega
    · unfold grL
      rw [List.mem_append, i2 S, List.mem_map]
      constructor
      · rintro (⟨h1, h2⟩ | ⟨T, hT, rfl⟩)
        · exact ⟨fun x hx => by have := h1 x hx; omega, h2⟩
        · obtain ⟨hT, hj⟩ := List.mem_filter.mp hT
          obtain ⟨h1, h2, h3⟩ := (i2 T).mp hT
          have hj := List.all_eq_true.mp hj
          refine ⟨fun x hx => ?_, List.pairwise_append.mpr ⟨h2, by simp, fun x hx y hy => ?_⟩, fun a ha b hb ne => ?_⟩
          · rcases List.mem_append.mp hx with hx | hx
            · have := h1 x hx; omega
            · rw [List.mem_singleton.mp hx]; omega
          · rw [List.mem_singleton.mp hy]; exact (h1 x hx).2
          · rcases List.mem_append.mp ha with ha | ha
            · rcases List.mem_append.mp hb with hb | hb
              · exact h3 a ha b hb ne
              · rw [List.mem_singleton.mp hb]; exact hj a ha
            · rcases List.mem_append.mp hb with hb | hb
              · rw [List.mem_singleton.mp ha, may_comm]; exact hj b hb
              · exact absurd ((List.mem_singleton.mp ha).trans (List.mem_singleton.mp hb).symm) ne
      · rintro ⟨h1, h2, h3⟩
        rcases List.eq_nil_or_concat S with rfl | ⟨T, a, e⟩
        · exact .inl ⟨fun x hx => (by cases hx), h2, h3⟩
        · rw [List.concat_eq_append] at e
          subst e
          obtain ⟨p1, _, p3⟩ := List.pairwise_append.mp h2
          have lt : ∀ x ∈ T, x < a := fun x hx => p3 x hx a (by simp)
          have ha := h1 a (by simp)
          by_cases hk : a = (k : Nat)
          · subst hk
            refine .inr ⟨T, List.mem_filter.mpr ⟨(i2 T).mpr ⟨fun x hx => ⟨(h1 x (by simp [hx])).1, lt x hx⟩, p1, fun x hx y hy ne => h3 x (by simp [hx]) y (by simp [hy]) ne⟩, List.all_eq_true.mpr fun x hx => h3 x (by simp [hx]) _ (by simp) (by have := lt x hx; omega)⟩, rfl⟩
          · refine .inl ⟨fun x hx => ?_, h2, h3⟩
            have h0 := h1 x hx
            rcases List.mem_append.mp hx with hx | hx
            · have := lt x hx; omega
            · rw [List.mem_singleton.mp hx] at h0 ⊢; omega
end K1
namespace K1
open PySem PySem.Spec PyProof.Rows L2 Pt
local macro_rules
  | `(tactic| walk_at "sz") => `(tactic| first
    | omega
    | decide
    | (simp; omega)
    | (simp [iL, row, pairsD]; omega))
  | `(tactic| walk_at "ea") => `(tactic| first
    | (with_reducible exact ea_nil)
    | ((with_reducible apply ea_consL); (focus (walk_at "ev")); (focus (walk_at "ea")))
    | ((with_reducible apply ea_consS); (focus (walk_at "ev")); (focus (walk_at "ea")))
    | ((with_reducible apply ea_cons); (focus (walk_at "ev")); (focus (walk_at "ea")))
    | ((with_reducible apply ea_consN); (focus (walk_at "en")); (focus (walk_at "ea"))))
  | `(tactic| walk_at "ed") => `(tactic| first
    | (with_reducible exact ed_nil)
    | ((with_reducible apply ed_cons); (focus (walk_at "ev")); (focus (walk_at "ed"))))
  | `(tactic| walk_at "en") => `(tactic| first
    | ((with_reducible apply en_lst); (focus (walk_at "ed")); (focus (simp)))
    | ((with_reducible apply en_listT); (focus (walk_at "ev")))
    | ((with_reducible apply en_addL); (focus (walk_at "ev")); (focus (walk_at "en")); (focus (walk_at "sz")))
    | ((with_reducible apply en_addN); (focus (walk_at "en")); (focus (walk_at "en")); (focus (walk_at "sz")))
    | ((with_reducible apply en_slL); (focus (walk_at "ev")); (focus (walk_at "eo")); (focus (walk_at "eo"))))
  | `(tactic| walk_at "eo") => `(tactic| first
    | (with_reducible exact eo_none)
    | ((with_reducible apply eo_some); (focus (walk_at "ev"))))
  | `(tactic| walk_at "et") => `(tactic| first
    | (with_reducible exact et_yes)
    | ((with_reducible apply et_test); (focus (walk_at "ev")))
    | ((with_reducible apply et_B); (focus (walk_at "ev")))
    | ((with_reducible apply et_truB); (focus (walk_at "ev")))
    | ((with_reducible apply et_truT); (focus (walk_at "ev")))
    | ((with_reducible apply et_not); (focus (walk_at "et")))
    | ((with_reducible apply et_and); (focus (walk_at "et")); (focus (intro _; walk_at "et")))
    | ((with_reducible apply et_or); (focus (walk_at "et")); (focus (intro _; walk_at "et"))))
  | `(tactic| walk_at "var") => `(tactic| first
    | ((with_reducible apply ev_varD); (focus (assumption)); (focus (rfl)))
    | ((with_reducible apply ev_varL); (focus (assumption)); (focus (rfl)))
    | ((with_reducible apply ev_varS); (focus (assumption)); (focus (rfl)))
    | ((with_reducible apply ev_varT); (focus (assumption)); (focus (rfl)))
    | ((with_reducible apply ev_varH); (focus (assumption)); (focus (rfl)))
    | ((with_reducible apply ev_varZ); (focus (assumption)); (focus (rfl))))
  | `(tactic| walk_at "ev") => `(tactic| first
    | walk_at "var"
    | (with_reducible exact ev_int)
    | (with_reducible exact ev_bl)
    | (with_reducible exact ev_str)
    | (with_reducible exact ev_non)
    | ((with_reducible apply ev_letters); (focus (walk_at "ev")))
    | ((with_reducible apply ev_pairs); (focus (walk_at "ev")))
    | ((with_reducible apply ev_addI); (focus (walk_at "ev")); (focus (walk_at "ev")))
    | ((with_reducible apply ev_addT); (focus (walk_at "ev")); (focus (walk_at "ev")); (focus (walk_at "sz")))
    | ((with_reducible apply ev_i0); (focus (walk_at "ev")); (focus (walk_at "ev")); (focus (first | exact fun _ => .int _ | exact fun _ => .bl _)))
    | ((with_reducible apply ev_iC); (focus (walk_at "ev")); (focus (walk_at "ev")); (focus (first | assumption | walk_at "cond")); (focus (exact fun _ => .int _)))
    | ((with_reducible apply ev_chain); (focus (walk_at "ev")); (focus (walk_at "ev")); (focus (walk_at "ev")))
    | ((with_reducible apply ev_eqI); (focus (walk_at "ev")); (focus (walk_at "ev")))
    | ((with_reducible apply ev_neI); (focus (walk_at "ev")); (focus (walk_at "ev")))
    | ((with_reducible apply ev_eqR); (focus (walk_at "ev")); (focus (walk_at "ev")))
    | ((with_reducible apply ev_neR); (focus (walk_at "ev")); (focus (walk_at "ev")))
    | ((with_reducible apply ev_isN); (focus (walk_at "ev")))
    | ((with_reducible apply ev_notN); (focus (walk_at "ev")))
    | ((with_reducible apply ev_in2); (focus (walk_at "ev")); (focus (walk_at "ev")); (focus (walk_at "ev")))
    | ((with_reducible apply ev_inP); (focus (walk_at "ev")); (focus (walk_at "ev")))
    | ((with_reducible apply ev_tup); (focus (walk_at "ed")); (focus (simp)))
    | ((with_reducible apply ev_lenT); (focus (walk_at "ev")))
    | ((with_reducible apply ev_lenL); (focus (walk_at "ev")))
    | ((with_reducible apply ev_lenS); (focus (walk_at "ev")))
    | ((with_reducible apply ev_lenN); (focus (walk_at "en")))
    | ((with_reducible apply ev_max2); (focus (walk_at "ev")); (focus (walk_at "ev")))
    | ((with_reducible apply ev_min2); (focus (walk_at "ev")); (focus (walk_at "ev")))
    | ((with_reducible apply ev_int1); (focus (walk_at "ev")))
    | ((with_reducible apply ev_tupleL); (focus (walk_at "ev")))
    | ((with_reducible apply ev_tupleN); (focus (walk_at "en")))
    | ((with_reducible apply ev_countT); (focus (walk_at "ev")); (focus (walk_at "ev")))
    | ((with_reducible apply ev_andV); (focus (walk_at "ev")); (focus (intro _; walk_at "ev")))
    | ((with_reducible apply ev_orV); (focus (walk_at "ev")); (focus (intro _; walk_at "ev")))
    | ((with_reducible apply ev_notV); (focus (walk_at "ev"))))
theorem rows_dep8x (L : List (List Int)) : ∀ d ∈ L.map row, d.depth ≤ 8 := fun d hd => by
  obtain ⟨m, _, rfl⟩ := List.mem_map.mp hd
  exact row_depth m
theorem rows_tupx (L : List (List Int)) : ∀ d ∈ L.map row, ∃ x, d = .tuple x := fun d hd => by
  obtain ⟨m, _, rfl⟩ := List.mem_map.mp hd
  exact ⟨_, rfl⟩
section
variable {P : Program} {w : World} {K : PySem.W.Frag} {mg : Str → Option Value} {base : Heap}
abbrev A_may_join (as : List Ag) (d : PyData) : Prop := ∃ (n : Int) (ps : List (Int × Int)) (S : List Int) (a : Int), S.length ≤ 20 ∧ as = [.c (.t n ps), .c (.d (row S)), .c (.d (.int a))] ∧ d = .bool (joins ps S a)
theorem ok_may_join (E : Nv K mg) : FnOk P w K mg base CX0 10 E.a_may_join E.d_may_join ["trade", "group", "letter"] (spC K E.C_Trade A_may_join) := by
  refine E.F_may_join.ok sc_may_join (fun vs H Q _ h => ?_) (fun cdv A outer s H vs Q _ hr h => ?_)
  · obtain ⟨as, d, ha, ⟨_, _, _, _, _, rfl, _⟩, _⟩ := h
    exact ha.length
  · obtain ⟨as, d, ha, ⟨n, ps, S, a, hS, rfl, rfl⟩, q⟩ := h
    obtain ⟨v1, v2, v3, rfl, a1, a2, a3⟩ := ha.three
    refine ⟨_, (pss_one (ps_ret (pe_callB (call_allK K rfl) (by rfl) E.n_all (by decide +kernel) (pa_cons (pe_lc (own := [("other", 3)]) (g := gName 3) (by rfl) sc_may_join.nd (pi_tupK K (pv 1)) (blkOk_by (own := [("other", 3)]) (N := N_may_join) (sc := defScope s_may_join) (by decide +kernel)) (fun _ _ _ _ _ => (pg_name (i := 3) sc_may_join.nd rfl (Or.inl rfl))) (fun _ _ _ _ _ => pts_nil) (fun _ _ _ _ _ => (pe_call (ok_may_change E) (hr.mono (by first | decide | omega)) (by rfl) E.m_may_change E.F_may_change.kp E.b_may_change .nil pass0 (pa_cons (pv 0) (pa_cons (pv 3) (pa_cons (pv 2) pa_nil)))))) pa_nil)))), ?_⟩
    have w0 : Wd K E.C_Trade [] [] H H _ [.t n ps, .d (row S), .d (.int a), .u] := Wd.start3 (N := N_may_join) a1 a2 a3
    exact s_retQ w0 q (ev_allK (f := fun x => may ps x a) (l := S) (en_lcT (j := 3) (mk := PyData.int) w0 (ev_var (i := 1) w0 rfl) (fun _ => true) _ (by omega) (fun x _ σ1 H1 w1 => et_yes) (fun x _ σ1 H1 w1 _ => ev_call (ea_cons (ev_var (i := 0) w1 rfl) (ea_cons (ev_var (i := 3) w1 rfl) (ea_cons (ev_var (i := 2) w1 rfl) ea_nil))) ⟨n, ps, x, a, rfl, rfl⟩)))
abbrev A_all_groups (as : List Ag) (ds : List PyData) : Prop := ∃ (n : Nat) (ps : List (Int × Int)), n ≤ 6 ∧ as = [.c (.t n ps)] ∧ ds = ((grL ps n).mergeSort leR).map row
theorem ok_all_groups (E : Nv K mg) : FnOk P w K mg base CX0 14 E.a_all_groups E.d_all_groups ["trade"] (spN K E.C_Trade A_all_groups) := by
  refine E.F_all_groups.ok sc_all_groups (fun vs H Q _ h => ?_) (fun cdv A outer s H vs Q _ hr h => ?_)
  · obtain ⟨as, d, ha, ⟨_, _, _, rfl, _⟩, _⟩ := h
    exact ha.length
  · obtain ⟨as, d, ha, ⟨n, ps, h6, rfl, rfl⟩, q⟩ := h
    obtain ⟨v1, rfl, a1⟩ := ha.one
    refine ⟨_, (pss_cons (ps_set (i := 1) sc_all_groups.nd rfl (.inl rfl) (pe_lst (pa_cons (pe_tupF pa_nil) pa_nil)))
      (pss_cons (ps_for PassesOwn.never rfl (pi_range1 (by rfl) E.n_range (pa_cons (pe_prop (pv 0) E.cl E.p_letters (ok_Trade_letters E) (hr.mono (by first | decide | omega)) E.b_Trade_letters .nil pass0 rfl) pa_nil)) (pg_name (i := 2) sc_all_groups.nd rfl (.inr rfl))
      (pss_one (ps_set (i := 1) sc_all_groups.nd rfl (.inl rfl) (pe_op (op_addK K) (pv 1) (pe_lc (own := [("group", 3)]) (g := gName 3) (by rfl) sc_all_groups.nd (pi_listK K (pv 1)) (blkOk_by (own := [("group", 3)]) (N := N_all_groups) (sc := defScope s_all_groups) (by decide +kernel)) (fun _ _ _ _ _ => (pg_name (i := 3) sc_all_groups.nd rfl (Or.inl rfl))) (fun _ _ _ _ _ => (pts_one (pt_truK K (pe_call (ok_may_join E) (hr.mono (by first | decide | omega)) (by rfl) E.m_may_join E.F_may_join.kp E.b_may_join .nil pass0 (pa_cons (pv 0) (pa_cons (pv 3) (pa_cons (pv 2) pa_nil)))) (fun _ => rfl)))) (fun _ _ _ _ _ => (pe_op (op_addK K) (pv 3) (pe_tupF (pa_cons (pv 2) pa_nil)))))))))
      (pss_one (ps_ret (pe_callB (call_sortTK K hr.units12) (by rfl) E.n_sorted (by decide +kernel) (pa_cons (pv 1) pa_nil)))))), ?_⟩
    have w0 : Wd K E.C_Trade [] [] H H _ [.t n ps, .u, .u, .u] := Wd.start1 (N := N_all_groups) (c1 := .t n ps) a1
    have two : ∀ k, k ≤ 6 → 2 ^ k ≤ 64 := fun k hk => Nat.le_trans (Nat.pow_le_pow_right (by decide) hk) (by decide)
    refine q_asgN w0 (en_lst (ed_cons (ev_d (e := row []) (ev_tup ed_nil) rfl) ed_nil)) fun p σ1 H1 _ w1 => ?_
    have w1' : Wd K E.C_Trade [] [] H H1 σ1 [.t n ps, .l p ((grL ps 0).map row), .u, .u] := w1
    refine q_forR1 w1' (n := (n : Nat)) (ea_cons (ev_letters (ev_var (i := 0) w1' rfl)) ea_nil) (by omega) (fun t σ H' => ∃ p c2 c3, Wd K E.C_Trade [] [] H H' σ [.t n ps, .l p ((grL ps t).map row), c2, c3]) (fun H2 w2 => ⟨_, _, _, w2⟩) ?_ ?_
    · rintro t σ H' ht ⟨p, c2, c3, w2⟩
      have w3 : Wd K E.C_Trade [] [] H H' _ [.t n ps, .l p ((grL ps t).map row), .d (.int (t : Nat)), c3] := w2.set 2 (v := .int (t : Nat)) (c := .d (.int (t : Nat))) (.int _)
      have l1 := Nat.le_trans (gr_len ps t) (two t (by omega))
      have l2 : (kept (fun S => joins ps S (t : Nat)) (fun S => row (S ++ [((t : Nat) : Int)])) (grL ps t)).length ≤ 64 := by
        unfold kept
        rw [List.length_map]
        exact Nat.le_trans (List.length_filter_le _ _) l1
      refine s_asgN w3 (en_cast (es := (grL ps (t + 1)).map row) (en_addL (ev_var (i := 1) w3 rfl) (en_lcS (j := 3) (l := grL ps t) (mk := row) w3 (ev_lend (ev_var (i := 1) w3 rfl)) (fun S => joins ps S (t : Nat)) (fun S => row (S ++ [((t : Nat) : Int)])) (by omega) (fun S hS σ6 H6 w6 => et_truB (ev_call (ea_cons (ev_var (i := 0) w6 rfl) (ea_cons (ev_var (i := 3) w6 rfl) (ea_cons (ev_var (i := 2) w6 rfl) ea_nil))) ⟨n, ps, S, _, by have := gr_size ps t S hS; omega, rfl, rfl⟩)) (fun S hS σ6 H6 w6 _ => ev_d (ev_addT (ev_var (i := 3) w6 rfl) (ev_tup (ed_cons (ev_var (i := 2) w6 rfl) ed_nil)) (by have := gr_size ps t S hS; rw [iL_len]; simp; omega)) (by rw [row, iL_app]; rfl))) (by rw [List.length_map]; omega)) ?_) fun p' σ6 H6 _ w6 => ⟨p', _, _, w6⟩
      unfold kept
      conv => rhs; unfold grL
      rw [List.map_append, List.map_map]
      rfl
    · rintro σ H' ⟨p, c2, c3, w2⟩
      rw [Int.toNat_natCast] at w2
      exact s_retNQ w2 q (en_cast (en_sortTL (ev_var (i := 1) w2 rfl) (rows_alike _) (rows_tupx _) (rows_dep8x _)) (sortedD_rows _))
end
end K1
namespace K1
open PySem PySem.Spec PyProof.Rows L2 Pt
def nxS (ps : List (Int × Int)) (s : Int → Bool) (a : Int) : Int → Bool := fun b => (s b || decide (b < a)) && may ps a b
def acc (ps : List (Int × Int)) : (Int → Bool) → List Int → Bool
  | _, [] => true
  | s, a :: t => !s a && acc ps (nxS ps s a) t
def Back (ps : List (Int × Int)) (s : Int → Bool) (x : List Int) (b : Int) : Prop :=
  (s b = true ∧ ∀ y ∈ x, may ps y b = true) ∨ ∃ p c q, x = p ++ c :: q ∧ b < c ∧ may ps c b = true ∧ ∀ y ∈ q, may ps y b = true
theorem back_nil {ps : List (Int × Int)} {s : Int → Bool} {b : Int} : Back ps s [] b ↔ s b = true := by
  constructor
  · rintro (⟨h, _⟩ | ⟨p, c, q, h, _⟩)
    · exact h
    · simp at h
  · exact fun h => .inl ⟨h, fun y hy => by cases hy⟩
theorem back_cons {ps : List (Int × Int)} {s : Int → Bool} {a b : Int} {x : List Int} : Back ps s (a :: x) b ↔ Back ps (nxS ps s a) x b := by
  constructor
  · rintro (⟨h, g⟩ | ⟨p, c, q, h, h1, h2, h3⟩)
    · refine .inl ⟨?_, fun y hy => g y (List.mem_cons_of_mem _ hy)⟩
      unfold nxS
      rw [h, g a List.mem_cons_self]
      rfl
    · cases p with
      | nil =>
        obtain ⟨rfl, rfl⟩ := List.cons.inj h
        refine .inl ⟨?_, h3⟩
        unfold nxS
        rw [decide_eq_true h1, h2, Bool.or_true]
        rfl
      | cons a' p =>
        obtain ⟨rfl, rfl⟩ := List.cons.inj h
        exact .inr ⟨p, c, q, rfl, h1, h2, h3⟩
  · rintro (⟨h, g⟩ | ⟨p, c, q, rfl, h1, h2, h3⟩)
    · unfold nxS at h
      rw [Bool.and_eq_true, Bool.or_eq_true] at h
      rcases h.1 with z | z
      · exact .inl ⟨z, fun y hy => by
          rcases List.mem_cons.mp hy with rfl | hy
          · exact h.2
          · exact g y hy⟩
      · exact .inr ⟨[], a, x, rfl, of_decide_eq_true z, h.2, g⟩
    · exact .inr ⟨a :: p, c, q, rfl, h1, h2, h3⟩
theorem acc_iff (ps : List (Int × Int)) : ∀ (u : List Int) (s : Int → Bool), acc ps s u = true ↔ ∀ x b z, u = x ++ b :: z → ¬ Back ps s x b
  | [], s => ⟨fun _ x b z h => by simp at h, fun _ => rfl⟩
  | a :: t, s => by
    unfold acc
    rw [Bool.and_eq_true, Bool.not_eq_true', acc_iff ps t (nxS ps s a)]
    constructor
    · rintro ⟨h1, h2⟩ x b z h hb
      cases x with
      | nil =>
        obtain ⟨rfl, rfl⟩ := List.cons.inj h
        rw [back_nil, h1] at hb
        cases hb
      | cons a' x =>
        obtain ⟨rfl, rfl⟩ := List.cons.inj h
        exact h2 x b z rfl (back_cons.mp hb)
    · intro h
      refine ⟨?_, fun x b z e hb => h (a :: x) b z (by rw [e]; rfl) (back_cons.mpr hb)⟩
      cases e : s a with
      | false => rfl
      | true => exact absurd (back_nil.mpr e) (h [] a t rfl)
theorem lt_app {b c : Int} (h : b < c) (r r' : List Int) : ∀ p : List Int, p ++ b :: r < p ++ c :: r'
  | [] => List.cons_lt_cons_iff.mpr (.inl h)
  | x :: p => List.cons_lt_cons_iff.mpr (.inr ⟨rfl, lt_app h r r' p⟩)
theorem differ : ∀ {u v : List Int}, u.length = v.length → u ≠ v → ∃ w a b t t', u = w ++ a :: t ∧ v = w ++ b :: t' ∧ a ≠ b
  | [], [], _, h => absurd rfl h
  | [], _ :: _, h, _ => by simp at h
  | _ :: _, [], h, _ => by simp at h
  | a :: u, b :: v, h, ne => by
    by_cases e : a = b
    · subst e
      obtain ⟨w, x, y, t, t', rfl, rfl, h3⟩ := differ (u := u) (v := v) (by simpa using h) (fun z => ne (by rw [z]))
      exact ⟨a :: w, x, y, t, t', rfl, rfl, h3⟩
    · exact ⟨[], a, b, u, v, rfl, rfl, e⟩
theorem least_iff {n : Int} {ps : List (Int × Int)} (hok : PairsOk n ps) (u : List Int) : leastL ps u = u ↔ acc ps (fun _ => false) u = true := by
  rw [acc_iff]
  constructor
  · rintro h x b z rfl (⟨g, _⟩ | ⟨p, c, q, rfl, h1, h2, h3⟩)
    · cases g
    · have sw : Alike ps ((c :: q) ++ [b]) ([b] ++ (c :: q)) := swap_alike hok fun y hy y' hy' => by
        rw [List.mem_singleton.mp hy']
        rcases List.mem_cons.mp hy with rfl | hy
        · exact h2
        · exact h3 y hy
      have al := (sw.appR hok z).app p
      have e : p ++ (c :: q ++ [b] ++ z) = p ++ c :: q ++ b :: z := by simp
      rw [e] at al
      have le := least_le hok al
      rw [h] at le
      refine le ?_
      have := lt_app h1 ((c :: q) ++ z) (q ++ b :: z) p
      simpa using this
  · intro h
    refine Classical.byContradiction fun ne => ?_
    have al := least_alike ps u
    obtain ⟨w, a, b, t, t', e1, e2, ne2⟩ := differ (alike_len al) (fun z => ne z.symm)
    have lt : ¬ u < leastL ps u := least_le hok (.refl ps u)
    have hba : b < a := by
      rcases (show a < b ∨ b ≤ a by omega) with z | z
      · refine absurd ?_ lt
        rw [e2, e1]
        conv => lhs; rw [← e1]
        rw [e1]
        exact lt_app z t t' w
      · omega
    have al2 : Alike ps (w ++ a :: t) (w ++ b :: t') := by rw [← e1, ← e2]; exact al
    obtain ⟨p, hp, hp1, hp2, _⟩ := head_first hok (app_cancel hok al2)
    obtain ⟨s1, _⟩ := erase_parts hp
    have hg : (a :: t)[p] = b := by
      rw [← hp1, List.getD_eq_getElem?_getD, List.getElem?_eq_getElem hp]
      rfl
    rw [hg] at s1
    have hp0 : p ≠ 0 := fun z => by
      subst z
      exact ne2 hg
    obtain ⟨k, rfl⟩ := Nat.exists_eq_succ_of_ne_zero hp0
    unfold canFirst at hp2
    rw [hp1] at hp2
    have hall := List.all_eq_true.mp hp2
    rw [List.take_succ_cons] at s1 hall
    refine h (w ++ a :: t.take k) b ((a :: t).drop (k + 1 + 1)) ?_ (.inr ⟨w, a, t.take k, rfl, hba, hall a List.mem_cons_self, fun y hy => hall y (List.mem_cons_of_mem _ hy)⟩)
    rw [e1, List.append_assoc]
    conv => lhs; rw [s1]
theorem sub_and_bit : ∀ (j x y : Nat), (x - (x &&& y)).testBit j = (x.testBit j && !y.testBit j)
  | 0, x, y => by
    have le : x &&& y ≤ x := Nat.and_le_left
    have h0 : (x &&& y).testBit 0 = (x.testBit 0 && y.testBit 0) := Nat.testBit_and x y 0
    rw [Nat.testBit_zero, Nat.testBit_zero, Nat.testBit_zero] at *
    have a1 : x % 2 = 0 ∨ x % 2 = 1 := by omega
    have a2 : y % 2 = 0 ∨ y % 2 = 1 := by omega
    have a3 : (x &&& y) % 2 = 0 ∨ (x &&& y) % 2 = 1 := by omega
    rcases a1 with a1 | a1 <;> rcases a2 with a2 | a2 <;> rcases a3 with a3 | a3 <;> simp [a1, a2, a3] at h0 ⊢ <;> omega
  | j + 1, x, y => by
    have le : x &&& y ≤ x := Nat.and_le_left
    have h0 : (x &&& y).testBit 0 = (x.testBit 0 && y.testBit 0) := Nat.testBit_and x y 0
    rw [Nat.testBit_zero, Nat.testBit_zero, Nat.testBit_zero] at h0
    have hd : (x &&& y) / 2 = x / 2 &&& y / 2 := Nat.and_div_two
    have hb : (x &&& y) % 2 ≤ x % 2 := by
      have a1 : x % 2 = 0 ∨ x % 2 = 1 := by omega
      have a3 : (x &&& y) % 2 = 0 ∨ (x &&& y) % 2 = 1 := by omega
      rcases a1 with a1 | a1 <;> rcases a3 with a3 | a3 <;> simp [a1, a3] at h0 ⊢
    rw [Nat.testBit_succ, Nat.testBit_succ, Nat.testBit_succ, ← sub_and_bit j (x / 2) (y / 2), ← hd]
    congr 1
    omega
def nxN (n : Nat) (ps : List (Int × Int)) (s a : Nat) : Nat := (s ||| (2 ^ a - 1)) - ((s ||| (2 ^ a - 1)) &&& barN ps (a : Nat) n)
theorem nx_bit {n : Nat} {ps : List (Int × Int)} {s a b : Nat} (hb : b < n) : (nxN n ps s a).testBit b = ((s.testBit b || decide (b < a)) && may ps (a : Nat) (b : Nat)) := by
  unfold nxN
  rw [sub_and_bit, Nat.testBit_or, Nat.testBit_two_pow_sub_one, barN_bit, decide_eq_true hb, Bool.true_and, Bool.not_not]
def goL (n : Nat) (ps : List (Int × Int)) (s : Nat) : List (Int × Int) := ((List.range n).filter fun a => !s.testBit a).map fun a => (((a : Nat) : Int), ((nxN n ps s a : Nat) : Int))
theorem ways_mem {n : Nat} {ps : List (Int × Int)} {s : Nat} {q : Int × Int} (h : q ∈ goL n ps s) : ∃ a : Nat, a < n ∧ s.testBit a = false ∧ q = ((a : Int), ((nxN n ps s a : Nat) : Int)) := by
  unfold goL at h
  obtain ⟨a, ha, rfl⟩ := List.mem_map.mp h
  obtain ⟨h1, h2⟩ := List.mem_filter.mp ha
  exact ⟨a, List.mem_range.mp h1, by simpa using h2, rfl⟩
theorem ways_strict (n : Nat) (ps : List (Int × Int)) (s : Nat) : (goL n ps s).Pairwise fun p q => p.1 < q.1 := by
  unfold goL
  rw [List.pairwise_map]
  exact (List.pairwise_lt_range.filter _).imp fun h => by
    show ((_ : Nat) : Int) < ((_ : Nat) : Int)
    omega
theorem ways_len (n : Nat) (ps : List (Int × Int)) (s : Nat) : (goL n ps s).length ≤ n := by
  unfold goL
  rw [List.length_map]
  exact Nat.le_trans (List.length_filter_le _ _) (by rw [List.length_range]; exact Nat.le_refl _)
def enL (n : Nat) (ps : List (Int × Int)) : Nat → Nat → List (List Int)
  | 0, _ => [[]]
  | k + 1, s => ((goL n ps s).map fun q => (enL n ps k q.2.toNat).map (q.1 :: ·)).flatten
def cnL (n : Nat) (ps : List (Int × Int)) : Nat → Nat → Nat
  | 0, _ => 1
  | k + 1, s => ((goL n ps s).map fun q => cnL n ps k q.2.toNat).sum
theorem en_len (n : Nat) (ps : List (Int × Int)) : ∀ k s, (enL n ps k s).length = cnL n ps k s
  | 0, _ => rfl
  | k + 1, s => by
    unfold enL cnL
    rw [List.length_flatten, List.map_map]
    congr 1
    refine List.map_congr_left fun q _ => ?_
    show ((enL n ps k q.2.toNat).map (q.1 :: ·)).length = _
    rw [List.length_map, en_len n ps k]
theorem cn_le {n : Nat} (h6 : n ≤ 8) (ps : List (Int × Int)) : ∀ k s, cnL n ps k s ≤ 2 ^ (3 * k)
  | 0, _ => Nat.le_refl _
  | k + 1, s => by
    unfold cnL
    have key : ∀ L : List (Int × Int), (L.map fun q => cnL n ps k q.2.toNat).sum ≤ L.length * 2 ^ (3 * k) := fun L => by
      induction L with
      | nil => simp
      | cons q L ih =>
        rw [List.map_cons, List.sum_cons, List.length_cons, Nat.add_mul]
        have := cn_le h6 ps k q.2.toNat
        omega
    refine Nat.le_trans (key _) ?_
    rw [show 3 * (k + 1) = 3 + 3 * k by omega, Nat.pow_add]
    exact Nat.mul_le_mul_right _ (Nat.le_trans (ways_len n ps s) h6)
theorem en_mem {n : Nat} {ps : List (Int × Int)} : ∀ (k s : Nat) (f : Int → Bool) (u : List Int), (∀ b : Nat, b < n → s.testBit b = f (b : Nat)) → (u ∈ enL n ps k s ↔ rowIn (n : Nat) u ∧ u.length = k ∧ acc ps f u = true)
  | 0, s, f, u, _ => by
    unfold enL
    rw [List.mem_singleton]
    constructor
    · rintro rfl; exact ⟨fun x hx => (by cases hx), rfl, rfl⟩
    · rintro ⟨_, h, _⟩; exact List.length_eq_zero_iff.mp h
  | k + 1, s, f, u, hs => by
    unfold enL
    rw [List.mem_flatten]
    constructor
    · rintro ⟨L, hL, hu⟩
      obtain ⟨q, hq, rfl⟩ := List.mem_map.mp hL
      obtain ⟨t, ht, rfl⟩ := List.mem_map.mp hu
      obtain ⟨a, ha, hf, rfl⟩ := ways_mem hq
      rw [Int.toNat_natCast] at ht
      obtain ⟨h1, h2, h3⟩ := (en_mem k (nxN n ps s a) (nxS ps f (a : Nat)) t fun b hb => by
        rw [nx_bit hb, hs b hb]
        unfold nxS
        congr 2
        exact decide_eq_decide.mpr (by omega)).mp ht
      refine ⟨fun x hx => ?_, by rw [List.length_cons, h2], ?_⟩
      · rcases List.mem_cons.mp hx with rfl | hx
        · exact ⟨by omega, by omega⟩
        · exact h1 x hx
      · unfold acc
        rw [← hs a ha, hf, h3]
        rfl
    · rintro ⟨h1, h2, h3⟩
      cases u with
      | nil => cases h2
      | cons x t =>
        have hx := h1 x List.mem_cons_self
        obtain ⟨a, rfl⟩ : ∃ a : Nat, x = (a : Nat) := ⟨x.toNat, by omega⟩
        have ha : a < n := by omega
        unfold acc at h3
        rw [Bool.and_eq_true, Bool.not_eq_true', ← hs a ha] at h3
        refine ⟨_, List.mem_map.mpr ⟨((a : Int), ((nxN n ps s a : Nat) : Int)), List.mem_map.mpr ⟨a, List.mem_filter.mpr ⟨List.mem_range.mpr ha, by simp [h3.1]⟩, rfl⟩, rfl⟩, List.mem_map.mpr ⟨t, ?_, rfl⟩⟩
        rw [Int.toNat_natCast]
        exact (en_mem k (nxN n ps s a) (nxS ps f (a : Nat)) t fun b hb => by
          rw [nx_bit hb, hs b hb]
          unfold nxS
          congr 2
          exact decide_eq_decide.mpr (by omega)).mpr ⟨fun y hy => h1 y (List.mem_cons_of_mem _ hy), by simpa using h2, h3.2⟩
theorem en_sorted (n : Nat) (ps : List (Int × Int)) : ∀ k s, (enL n ps k s).Pairwise (· < ·)
  | 0, _ => by unfold enL; simp
  | k + 1, s => by
    unfold enL
    rw [List.pairwise_flatten]
    refine ⟨fun L hL => ?_, ?_⟩
    · obtain ⟨q, hq, rfl⟩ := List.mem_map.mp hL
      rw [List.pairwise_map]
      exact (en_sorted n ps k q.2.toNat).imp fun h => List.cons_lt_cons_iff.mpr (.inr ⟨rfl, h⟩)
    · rw [List.pairwise_map]
      refine (ways_strict n ps s).imp fun {p q} h x hx y hy => ?_
      obtain ⟨x, _, rfl⟩ := List.mem_map.mp hx
      obtain ⟨y, _, rfl⟩ := List.mem_map.mp hy
      exact List.cons_lt_cons_iff.mpr (.inl h)
theorem irrL (a : List Int) : ¬ a < a := List.lt_irrefl a
theorem en_nodup (n : Nat) (ps : List (Int × Int)) (k s : Nat) : (enL n ps k s).Nodup := (en_sorted n ps k s).imp fun {a b} h e => by subst e; exact irrL _ h
theorem en_lrows {n : Nat} {ps : List (Int × Int)} (hok : PairsOk (n : Nat) ps) (k : Nat) : LRows (n : Nat) ps k (enL n ps k 0) := ⟨en_nodup n ps k 0, fun u => by
  rw [en_mem k 0 (fun _ => false) u fun b _ => Nat.zero_testBit b, least_iff hok]⟩
end K1
set_option maxRecDepth 10000000
namespace K1
open PySem PySem.Spec PyProof.Rows L2 Pt
local macro_rules
  | `(tactic| walk_at "sz") => `(tactic| first
    | omega
    | decide
    | (simp; omega)
    | (simp [iL, row, pairsD]; omega))
  | `(tactic| walk_at "ea") => `(tactic| first
    | (with_reducible exact ea_nil)
    | ((with_reducible apply ea_consL); (focus (walk_at "ev")); (focus (walk_at "ea")))
    | ((with_reducible apply ea_consS); (focus (walk_at "ev")); (focus (walk_at "ea")))
    | ((with_reducible apply ea_cons); (focus (walk_at "ev")); (focus (walk_at "ea")))
    | ((with_reducible apply ea_consN); (focus (walk_at "en")); (focus (walk_at "ea"))))
  | `(tactic| walk_at "ed") => `(tactic| first
    | (with_reducible exact ed_nil)
    | ((with_reducible apply ed_cons); (focus (walk_at "ev")); (focus (walk_at "ed"))))
  | `(tactic| walk_at "en") => `(tactic| first
    | ((with_reducible apply en_lst); (focus (walk_at "ed")); (focus (simp)))
    | ((with_reducible apply en_listT); (focus (walk_at "ev")))
    | ((with_reducible apply en_addL); (focus (walk_at "ev")); (focus (walk_at "en")); (focus (walk_at "sz")))
    | ((with_reducible apply en_addN); (focus (walk_at "en")); (focus (walk_at "en")); (focus (walk_at "sz")))
    | ((with_reducible apply en_slL); (focus (walk_at "ev")); (focus (walk_at "eo")); (focus (walk_at "eo"))))
  | `(tactic| walk_at "eo") => `(tactic| first
    | (with_reducible exact eo_none)
    | ((with_reducible apply eo_some); (focus (walk_at "ev"))))
  | `(tactic| walk_at "et") => `(tactic| first
    | (with_reducible exact et_yes)
    | ((with_reducible apply et_test); (focus (walk_at "ev")))
    | ((with_reducible apply et_B); (focus (walk_at "ev")))
    | ((with_reducible apply et_truB); (focus (walk_at "ev")))
    | ((with_reducible apply et_truT); (focus (walk_at "ev")))
    | ((with_reducible apply et_not); (focus (walk_at "et")))
    | ((with_reducible apply et_and); (focus (walk_at "et")); (focus (intro _; walk_at "et")))
    | ((with_reducible apply et_or); (focus (walk_at "et")); (focus (intro _; walk_at "et"))))
  | `(tactic| walk_at "var") => `(tactic| first
    | ((with_reducible apply ev_varD); (focus (assumption)); (focus (rfl)))
    | ((with_reducible apply ev_varL); (focus (assumption)); (focus (rfl)))
    | ((with_reducible apply ev_varS); (focus (assumption)); (focus (rfl)))
    | ((with_reducible apply ev_varT); (focus (assumption)); (focus (rfl)))
    | ((with_reducible apply ev_varH); (focus (assumption)); (focus (rfl)))
    | ((with_reducible apply ev_varZ); (focus (assumption)); (focus (rfl))))
  | `(tactic| walk_at "ev") => `(tactic| first
    | walk_at "var"
    | (with_reducible exact ev_int)
    | (with_reducible exact ev_bl)
    | (with_reducible exact ev_str)
    | (with_reducible exact ev_non)
    | ((with_reducible apply ev_letters); (focus (walk_at "ev")))
    | ((with_reducible apply ev_pairs); (focus (walk_at "ev")))
    | ((with_reducible apply ev_addI); (focus (walk_at "ev")); (focus (walk_at "ev")))
    | ((with_reducible apply ev_addT); (focus (walk_at "ev")); (focus (walk_at "ev")); (focus (walk_at "sz")))
    | ((with_reducible apply ev_i0); (focus (walk_at "ev")); (focus (walk_at "ev")); (focus (first | exact fun _ => .int _ | exact fun _ => .bl _)))
    | ((with_reducible apply ev_iC); (focus (walk_at "ev")); (focus (walk_at "ev")); (focus (first | assumption | walk_at "cond")); (focus (exact fun _ => .int _)))
    | ((with_reducible apply ev_chain); (focus (walk_at "ev")); (focus (walk_at "ev")); (focus (walk_at "ev")))
    | ((with_reducible apply ev_eqI); (focus (walk_at "ev")); (focus (walk_at "ev")))
    | ((with_reducible apply ev_neI); (focus (walk_at "ev")); (focus (walk_at "ev")))
    | ((with_reducible apply ev_eqR); (focus (walk_at "ev")); (focus (walk_at "ev")))
    | ((with_reducible apply ev_neR); (focus (walk_at "ev")); (focus (walk_at "ev")))
    | ((with_reducible apply ev_isN); (focus (walk_at "ev")))
    | ((with_reducible apply ev_notN); (focus (walk_at "ev")))
    | ((with_reducible apply ev_in2); (focus (walk_at "ev")); (focus (walk_at "ev")); (focus (walk_at "ev")))
    | ((with_reducible apply ev_inP); (focus (walk_at "ev")); (focus (walk_at "ev")))
    | ((with_reducible apply ev_tup); (focus (walk_at "ed")); (focus (simp)))
    | ((with_reducible apply ev_lenT); (focus (walk_at "ev")))
    | ((with_reducible apply ev_lenL); (focus (walk_at "ev")))
    | ((with_reducible apply ev_lenS); (focus (walk_at "ev")))
    | ((with_reducible apply ev_lenN); (focus (walk_at "en")))
    | ((with_reducible apply ev_max2); (focus (walk_at "ev")); (focus (walk_at "ev")))
    | ((with_reducible apply ev_min2); (focus (walk_at "ev")); (focus (walk_at "ev")))
    | ((with_reducible apply ev_int1); (focus (walk_at "ev")))
    | ((with_reducible apply ev_tupleL); (focus (walk_at "ev")))
    | ((with_reducible apply ev_tupleN); (focus (walk_at "en")))
    | ((with_reducible apply ev_countT); (focus (walk_at "ev")); (focus (walk_at "ev")))
    | ((with_reducible apply ev_andV); (focus (walk_at "ev")); (focus (intro _; walk_at "ev")))
    | ((with_reducible apply ev_orV); (focus (walk_at "ev")); (focus (intro _; walk_at "ev")))
    | ((with_reducible apply ev_notV); (focus (walk_at "ev"))))
def cS (G : List (List Int)) (j : Nat) : Int := ((G.filter fun S => decide (S.length = j)).map sg).sum
theorem cS_cons (S : List Int) (G : List (List Int)) (j : Nat) : cS (S :: G) j = (if S.length = j then sg S else 0) + cS G j := by
  unfold cS
  by_cases h : S.length = j
  · rw [if_pos h, List.filter_cons_of_pos (by simpa using h), List.map_cons, List.sum_cons]
  · rw [if_neg h, List.filter_cons_of_neg (by simpa using h)]
    omega
theorem cS_perm {G G' : List (List Int)} (p : G.Perm G') (j : Nat) : cS G j = cS G' j := sum_perm ((p.filter _).map sg)
theorem cS_snoc (G : List (List Int)) (S : List Int) (j : Nat) : cS (G ++ [S]) j = cS G j + if S.length = j then sg S else 0 := by
  rw [cS_perm (List.perm_append_comm (l₁ := G) (l₂ := [S])) j]
  show cS (S :: G) j = _
  rw [cS_cons]
  omega
theorem sg_abs (S : List Int) : (sg S).natAbs = 1 := by
  unfold sg
  split <;> rfl
theorem cS_abs (j : Nat) : ∀ G : List (List Int), (cS G j).natAbs ≤ G.length
  | [] => Nat.le_refl _
  | S :: G => by
    rw [cS_cons, List.length_cons]
    have h1 := cS_abs j G
    have h2 := sg_abs S
    have h3 := Int.natAbs_add_le (if S.length = j then sg S else 0) (cS G j)
    split at h3 <;> rename_i h
    · rw [if_pos h]; omega
    · rw [if_neg h]
      have : ((0 : Int)).natAbs = 0 := rfl
      omega
theorem one_term (f : Nat → Int) (x : Int) (a : Nat) : ∀ m : Nat, a < m → ((List.range m).map fun j => (if a = j then x else 0) * f j).sum = x * f a
  | 0, h => absurd h (Nat.not_lt_zero _)
  | m + 1, h => by
    rw [List.range_succ, List.map_append, sum_app]
    by_cases e : a = m
    · subst e
      have z : ((List.range a).map fun j => (if a = j then x else 0) * f j).sum = 0 := by
        have : ((List.range a).map fun j => (if a = j then x else 0) * f j).sum = ((List.range a).map fun _ => (0 : Int)).sum := sum_congr fun j hj => by
          have := List.mem_range.mp hj
          rw [if_neg (by omega), Int.zero_mul]
        rw [this]
        have : ∀ l : List Nat, (l.map fun _ => (0 : Int)).sum = 0 := fun l => by
          induction l with
          | nil => rfl
          | cons a l ih => rw [List.map_cons, List.sum_cons, ih]; rfl
        exact this _
      rw [z]
      simp
    · rw [one_term f x a m (by omega)]
      simp [e]
theorem by_size (f : Nat → Int) (m : Nat) : ∀ G : List (List Int), (∀ S ∈ G, S.length < m) → (G.map fun S => sg S * f S.length).sum = ((List.range m).map fun j => cS G j * f j).sum
  | [], _ => by
    have : ∀ l : List Nat, (l.map fun j => cS [] j * f j).sum = 0 := fun l => by
      induction l with
      | nil => rfl
      | cons a l ih => rw [List.map_cons, List.sum_cons, ih]; show (0 : Int) * f a + 0 = 0; simp
    rw [this]
    rfl
  | S :: G, h => by
    rw [List.map_cons, List.sum_cons, by_size f m G fun T hT => h T (List.mem_cons_of_mem _ hT)]
    have e : ((List.range m).map fun j => cS (S :: G) j * f j).sum = ((List.range m).map fun j => (if S.length = j then sg S else 0) * f j + cS G j * f j).sum := sum_congr fun j _ => by rw [cS_cons, Int.add_mul]
    rw [e, map_sum_add, one_term f (sg S) S.length m (h S List.mem_cons_self)]
theorem cS_zero {n : Int} {ps : List (Int × Int)} {G : List (List Int)} (h : Groups n ps G) : cS G 0 = 1 := by
  have e : (G.filter fun S => decide (S.length = 0)).Perm [[]] := (List.perm_ext_iff_of_nodup (h.nd.filter _) (by simp)).mpr fun S => by
    rw [List.mem_filter, List.mem_singleton, decide_eq_true_eq, List.length_eq_zero_iff]
    constructor
    · exact fun h => h.2
    · rintro rfl
      exact ⟨(h.mem []).mpr ⟨fun x hx => (by cases hx), List.Pairwise.nil, fun a ha => (by cases ha)⟩, rfl⟩
  unfold cS
  rw [sum_perm (e.map sg)]
  rfl
def sumS' (n : Nat) (ps : List (Int × Int)) (k t : Nat) : Int := ((List.range t).map fun i => cS (grL ps n) (i + 1) * ((cnL n ps (k - (i + 1)) 0 : Nat) : Int)).sum
theorem sumS'_succ (n : Nat) (ps : List (Int × Int)) (k t : Nat) : sumS' n ps k (t + 1) = sumS' n ps k t + cS (grL ps n) (t + 1) * ((cnL n ps (k - (t + 1)) 0 : Nat) : Int) := by
  unfold sumS'
  rw [List.range_succ, List.map_append, sum_app]
  simp
theorem sum_cut (f : Nat → Int) (m : Nat) : ∀ n : Nat, m ≤ n → (∀ i, m ≤ i → f i = 0) → ((List.range n).map f).sum = ((List.range m).map f).sum
  | 0, h, _ => by rw [Nat.le_zero.mp h]
  | n + 1, h, hf => by
    by_cases e : m = n + 1
    · rw [e]
    · rw [List.range_succ, List.map_append, sum_app, sum_cut f m n (by omega) hf]
      have := hf n (by omega)
      simp [this]
theorem cn_rule {n : Nat} {ps : List (Int × Int)} (hok : PairsOk (n : Nat) ps) {k : Nat} (hk : 0 < k) : ((cnL n ps k 0 : Nat) : Int) = - sumS' n ps k (min k n) := by
  have hG := gr_groups (n := (n : Nat)) (ps := ps) n
  have r := rows_rule hok hG (U := fun k => enL n ps k 0) (fun k => en_lrows hok k) hk
  have e1 : ((grL ps n).map fun S => sg S * (if S.length ≤ k then (((enL n ps (k - S.length) 0).length : Nat) : Int) else 0)).sum = ((grL ps n).map fun S => sg S * (fun j => if j ≤ k then ((cnL n ps (k - j) 0 : Nat) : Int) else 0) S.length).sum := sum_congr fun S _ => by
    show _ = sg S * (if S.length ≤ k then ((cnL n ps (k - S.length) 0 : Nat) : Int) else 0)
    rw [en_len]
  rw [e1, by_size (fun j => if j ≤ k then ((cnL n ps (k - j) 0 : Nat) : Int) else 0) (n + 1) _ fun S hS => Nat.lt_succ_of_le (gr_size ps n S hS), List.range_succ_eq_map, List.map_cons, List.sum_cons, List.map_map, cS_zero hG] at r
  have e2 : ((List.range n).map ((fun j => cS (grL ps n) j * (if j ≤ k then ((cnL n ps (k - j) 0 : Nat) : Int) else 0)) ∘ Nat.succ)).sum = sumS' n ps k (min k n) := by
    rw [sum_cut _ (min k n) n (Nat.min_le_right _ _) fun i hi => ?_]
    · unfold sumS'
      refine sum_congr fun i hi => ?_
      have := List.mem_range.mp hi
      show cS (grL ps n) (i + 1) * (if i + 1 ≤ k then _ else 0) = _
      rw [if_pos (by omega)]
    · show cS (grL ps n) (i + 1) * (if i + 1 ≤ k then _ else 0) = 0
      by_cases hik : i + 1 ≤ k
      · have hin : n ≤ i := by omega
        have z : cS (grL ps n) (i + 1) = 0 := by
          unfold cS
          rw [List.filter_eq_nil_iff.mpr fun S hS => by have := gr_size ps n S hS; simp; omega]
          rfl
        rw [z, Int.zero_mul]
      · rw [if_neg hik, Int.mul_zero]
  rw [e2] at r
  simp at r
  omega
section
variable {P : Program} {w : World} {K : PySem.W.Frag} {mg : Str → Option Value} {base : Heap}
abbrev A_sign (as : List Ag) (d : PyData) : Prop := ∃ (k : Nat), as = [.c (.d (.int (k : Nat)))] ∧ d = .int (if k % 2 = 0 then 1 else -1)
theorem ok_sign (E : Nv K mg) : FnOk P w K mg base CX0 4 E.a_sign E.d_sign ["number"] (spC K E.C_Trade A_sign) := by
  refine E.F_sign.ok sc_sign (fun vs H Q _ h => ?_) (fun cdv A outer s H vs Q _ hr h => ?_)
  · obtain ⟨as, d, ha, ⟨_, rfl, _⟩, _⟩ := h
    exact ha.length
  · obtain ⟨as, d, ha, ⟨k, rfl, rfl⟩, q⟩ := h
    obtain ⟨v1, rfl, a1⟩ := ha.one
    refine ⟨_, (pss_cons (ps_if (pt_cmpR (op_eqK K hr.units) (pe_op op_mod (pv 0) pe_int) pe_int (nomark _)) (pss_one (ps_ret pe_int)) pss_nil)
      (pss_one (ps_ret (pe_un un_neg pe_int)))), ?_⟩
    have w0 : Wd K E.C_Trade [] [] H H _ [.d (.int (k : Nat))] := Wd.start1 (N := N_sign) (c1 := .d (.int (k : Nat))) a1
    refine s_when w0 (b := decide (((k : Nat) : Int) % 2 = 0)) (et_test (ev_eqI (ev_iC (d := .int (((k : Nat) : Int) % 2)) (ev_var (i := 0) w0 rfl) ev_int (by decide) (fun _ => .int _)) ev_int)) (fun e H1 w1 => ?_) (fun e H1 w1 => ?_)
    · have := of_decide_eq_true e
      exact s_retQ w1 q (ev_d ev_int (by rw [if_pos (by omega)]))
    · have := of_decide_eq_false e
      exact s_retQ w1 q (ev_d (ev_neg ev_int) (by rw [if_neg (by omega)]))
def scL (n : Nat) (ps : List (Int × Int)) : List Int := (List.range (n + 1)).map (cS (grL ps n))
theorem scL_at {n : Nat} {ps : List (Int × Int)} {j : Nat} (h : j ≤ n) : (iL (scL n ps))[j]? = some (.int (cS (grL ps n) j)) := by
  rw [iL_get]
  unfold scL
  rw [List.getElem?_map, List.getElem?_range (by omega)]
  rfl
theorem set_map (f g : Nat → Int) (m a : Nat) (h : ∀ j, g j = if a = j then f j + (g a - f a) else f j) : (iL ((List.range m).map f)).set a (.int (g a)) = iL ((List.range m).map g) := by
  refine List.ext_getElem? fun i => ?_
  rw [List.getElem?_set, iL_get, iL_get, List.getElem?_map, List.getElem?_map, iL_len, List.length_map, List.length_range]
  by_cases hi : i < m
  · rw [List.getElem?_range hi]
    by_cases e : a = i
    · subst e
      rw [if_pos rfl, if_pos hi]
      rfl
    · rw [if_neg e]
      have := h i
      rw [if_neg e] at this
      simp [this]
  · rw [List.getElem?_eq_none (l := List.range m) (by rw [List.length_range]; omega)]
    by_cases e : a = i
    · subst e
      rw [if_pos rfl, if_neg hi]
      rfl
    · rw [if_neg e]
      rfl
abbrev A_signed_counts (as : List Ag) (ds : List PyData) : Prop := ∃ (n : Nat) (ps : List (Int × Int)), n ≤ 6 ∧ as = [.c (.t n ps)] ∧ ds = iL (scL n ps)
theorem ok_signed_counts (E : Nv K mg) : FnOk P w K mg base CX0 20 E.a_signed_counts E.d_signed_counts ["trade"] (spN K E.C_Trade A_signed_counts) := by
  refine E.F_signed_counts.ok sc_signed_counts (fun vs H Q _ h => ?_) (fun cdv A outer s H vs Q _ hr h => ?_)
  · obtain ⟨as, d, ha, ⟨_, _, _, rfl, _⟩, _⟩ := h
    exact ha.length
  · obtain ⟨as, d, ha, ⟨n, ps, h6, rfl, rfl⟩, q⟩ := h
    obtain ⟨v1, rfl, a1⟩ := ha.one
    refine ⟨_, (pss_cons (ps_set (i := 1) sc_signed_counts.nd rfl (.inl rfl) (pe_op op_rep (pe_lst (pa_cons pe_int pa_nil)) (pe_op (op_addK K) (pe_prop (pv 0) E.cl E.p_letters (ok_Trade_letters E) (hr.mono (by first | decide | omega)) E.b_Trade_letters .nil pass0 rfl) pe_int)))
      (pss_cons (ps_for PassesOwn.never rfl (pi_listK K (pe_call (ok_all_groups E) (hr.mono (by first | decide | omega)) (by rfl) E.m_all_groups E.F_all_groups.kp E.b_all_groups .nil pass0 (pa_cons (pv 0) pa_nil))) (pg_name (i := 2) sc_signed_counts.nd rfl (.inl rfl))
      (pss_one (ps_augS (pv 1) (pe_callB (call_lenK K) (by rfl) E.n_len (by decide +kernel) (pa_cons (pv 2) pa_nil)) (pget_listK K) (pe_call (ok_sign E) (hr.mono (by first | decide | omega)) (by rfl) E.m_sign E.F_sign.kp E.b_sign .nil pass0 (pa_cons (pe_callB (call_lenK K) (by rfl) E.n_len (by decide +kernel) (pa_cons (pv 2) pa_nil)) pa_nil)) ip_add set_list)))
      (pss_one (ps_ret (pv 1))))), ?_⟩
    have w0 : Wd K E.C_Trade [] [] H H _ [.t n ps, .u, .u] := Wd.start1 (N := N_signed_counts) (c1 := .t n ps) a1
    refine q_asgN w0 (en_cast (es := iL ((List.range (n + 1)).map fun j => cS [] j)) (en_repL (k := (n : Int) + 1) (en_lst (ds := iL [0]) (ed_cons ev_int ed_nil) (Nat.le_of_ble_eq_true rfl)) (ev_addI (ev_letters (ev_var (i := 0) w0 rfl)) ev_int) (by omega) (by omega) (Nat.le_of_ble_eq_true rfl)) ?_) fun p σ1 H1 _ w1 => ?_
    · have : ∀ m : Nat, (List.replicate m (iL [0])).flatten = iL ((List.range m).map fun j => cS [] j) := fun m => by
        induction m with
        | zero => rfl
        | succ m ih =>
          rw [List.replicate_succ', List.flatten_append, ih, List.range_succ, List.map_append, iL_app]
          rfl
      rw [show ((n : Int) + 1).toNat = n + 1 by omega, this]
    have w1' : Wd K E.C_Trade [] [] H H1 σ1 [.t n ps, .l p (iL ((List.range (n + 1)).map fun j => cS [] j)), .u] := w1
    refine q_forN (l := (grL ps n).mergeSort leR) (mk := row) w1' (en_call (ea_cons (ev_var (i := 0) w1' rfl) ea_nil) ⟨n, ps, h6, rfl, rfl⟩)
      (fun t Γ' => ∃ c2, Γ' = [.t n ps, .l p (iL ((List.range (n + 1)).map fun j => cS (((grL ps n).mergeSort leR).take t) j)), c2]) ⟨_, rfl⟩ ?_ ?_
    · rintro S1 H1' un t ht v' σ' H' Γ' ⟨c2, rfl⟩ w4 t4
      have hm : ((grL ps n).mergeSort leR)[t] ∈ grL ps n := (List.mergeSort_perm _ _).mem_iff.mp (List.getElem_mem ht)
      have htk : ((grL ps n).mergeSort leR).take (t + 1) = ((grL ps n).mergeSort leR).take t ++ [((grL ps n).mergeSort leR)[t]] := List.take_succ_eq_append_getElem ht
      generalize ((grL ps n).mergeSort leR)[t] = S at t4 hm htk
      generalize ((grL ps n).mergeSort leR).take t = T at w4 htk
      refine g_one (i := 2) w4 t4 fun σ5 w5 => ?_
      have w5' : Wd K E.C_Trade S1 [] H1' H' σ5 [.t n ps, .l p (iL ((List.range (n + 1)).map fun j => cS T j)), .d (row S)] := w5
      have hl := gr_size ps n S hm
      have hlen : ∀ {H2 : Hp}, Wd K E.C_Trade S1 [] H1' H2 σ5 [.t n ps, .l p (iL ((List.range (n + 1)).map fun j => cS T j)), .d (row S)] → EvC K E.C_Trade (tCB (Pt.rLen K) (tCons (tVar 2) tNil)) σ5 H2 (.d (.int (S.length : Nat))) := fun w => ev_d (ev_lenT (ev_var (i := 2) w rfl)) (by rw [iL_len])
      refine s_addL (j := S.length) (x0 := cS T S.length) (z := sg S) w5' (i := 1) rfl (hlen w5') ?_ (fun H2 w6 => ev_d (ev_call (ea_cons (hlen w6) ea_nil) ⟨S.length, rfl, rfl⟩) rfl) fun H2 w7 => ⟨_, ⟨.d (row S), rfl⟩, ?_⟩
      · rw [iL_get, List.getElem?_map, List.getElem?_range (by omega)]
        rfl
      · have e : cS T S.length + sg S = cS (T ++ [S]) S.length := by rw [cS_snoc, if_pos rfl]
        rw [htk, ← set_map (fun j => cS T j) (fun j => cS (T ++ [S]) j) (n + 1) S.length (fun j => ?_), ← e]
        · exact w7
        · rw [cS_snoc, cS_snoc, if_pos rfl]
          by_cases z : S.length = j
          · rw [if_pos z, if_pos z]; omega
          · rw [if_neg z, if_neg z]; omega
    · rintro σ' H' Γ' ⟨c2, rfl⟩ w4
      rw [List.take_length] at w4
      have e : ((List.range (n + 1)).map fun j => cS ((grL ps n).mergeSort leR) j) = scL n ps := List.map_congr_left fun j _ => cS_perm (List.mergeSort_perm _ _) j
      rw [e] at w4
      exact s_retLQ w4 q rfl
def foL (n : Nat) (ps : List (Int × Int)) (m : Nat) : List Int := (List.range m).map fun i => ((cnL n ps i 0 : Nat) : Int)
theorem foL_at {n : Nat} {ps : List (Int × Int)} {m i : Nat} (h : i < m) : (iL (foL n ps m))[i]? = some (.int (cnL n ps i 0 : Nat)) := by
  rw [iL_get]
  unfold foL
  rw [List.getElem?_map, List.getElem?_range h]
  rfl
theorem cs_wide {n : Nat} (h6 : n ≤ 6) (ps : List (Int × Int)) (j : Nat) : (cS (grL ps n) j).natAbs < 2 ^ 7 := by
  have h1 := cS_abs j (grL ps n)
  have h2 := gr_len ps n
  have h3 : 2 ^ n ≤ 2 ^ 6 := Nat.pow_le_pow_right (by decide) h6
  have h4 : (2 : Nat) ^ 6 < 2 ^ 7 := by decide
  omega
theorem cn_wide {n : Nat} (h6 : n ≤ 6) (ps : List (Int × Int)) {k : Nat} (hk : k ≤ 500) : (((cnL n ps k 0 : Nat) : Int)).natAbs < 2 ^ 1501 := by
  have h1 := cn_le (n := n) (by omega) ps k 0
  have h2 : 2 ^ (3 * k) < 2 ^ 1501 := Nat.pow_lt_pow_right (by decide) (by omega)
  rw [Int.natAbs_natCast]
  exact Nat.lt_of_le_of_lt h1 h2
abbrev A_how_many (as : List Ag) (d : PyData) : Prop := ∃ (n : Nat) (ps : List (Int × Int)) (k : Nat), PairsOk (n : Nat) ps ∧ n ≤ 6 ∧ k ≤ 500 ∧ as = [.c (.t n ps), .c (.d (.int (k : Nat)))] ∧ d = .int (cnL n ps k 0 : Nat)
theorem ok_how_many (E : Nv K mg) : FnOk P w K mg base CX0 24 E.a_how_many E.d_how_many ["trade", "length"] (spC K E.C_Trade A_how_many) := by
  refine E.F_how_many.ok sc_how_many (fun vs H Q _ h => ?_) (fun cdv A outer s H vs Q _ hr h => ?_)
  · obtain ⟨as, d, ha, ⟨_, _, _, _, _, _, rfl, _⟩, _⟩ := h
    exact ha.length
  · obtain ⟨as, d, ha, ⟨n, ps, k, hok, h6, hk, rfl, rfl⟩, q⟩ := h
    obtain ⟨v1, v2, rfl, a1, a2⟩ := ha.two
    refine ⟨_, (pss_cons (ps_expr (pe_call (ok_check_trade E) (hr.mono (by first | decide | omega)) (by rfl) E.m_check_trade E.F_check_trade.kp E.b_check_trade .nil pass0 (pa_cons (pv 0) pa_nil)))
      (pss_cons (ps_if (pt_not (pt_truK K (pe_call (ok_is_whole E) (hr.mono (by first | decide | omega)) (by rfl) E.m_is_whole E.F_is_whole.kp E.b_is_whole .nil pass0 (pa_cons (pv 1) (pa_cons pe_int (pa_cons (pe_glob (v := .int 500) (by rfl) E.c_MOST_LENGTH ⟨_, rfl⟩) pa_nil)))) (fun _ => rfl))) (pss_one ps_never) pss_nil)
      (pss_cons (ps_set (i := 2) sc_how_many.nd rfl (.inl rfl) (pe_call (ok_signed_counts E) (hr.mono (by first | decide | omega)) (by rfl) E.m_signed_counts E.F_signed_counts.kp E.b_signed_counts .nil pass0 (pa_cons (pv 0) pa_nil)))
      (pss_cons (ps_set (i := 3) sc_how_many.nd rfl (.inl rfl) (pe_lst (pa_cons pe_int pa_nil)))
      (pss_cons (ps_for PassesOwn.never rfl (pi_range2 (by rfl) E.n_range (pa_cons pe_int (pa_cons (pe_op (op_addK K) (pv 1) pe_int) pa_nil))) (pg_name (i := 4) sc_how_many.nd rfl (.inl rfl))
      (pss_cons (ps_set (i := 5) sc_how_many.nd rfl (.inl rfl) pe_int)
      (pss_cons (ps_for PassesOwn.never rfl (pi_range2 (by rfl) E.n_range (pa_cons pe_int (pa_cons (pe_op (op_addK K) (pe_callB (call_min2' rfl) (by rfl) E.n_min (by decide +kernel) (pa_cons (pv 4) (pa_cons (pe_prop (pv 0) E.cl E.p_letters (ok_Trade_letters E) (hr.mono (by first | decide | omega)) E.b_Trade_letters .nil pass0 rfl) pa_nil))) pe_int) pa_nil))) (pg_name (i := 6) sc_how_many.nd rfl (.inl rfl))
      (pss_one (ps_set (i := 5) sc_how_many.nd rfl (.inl rfl) (pe_op op_sub (pv 5) (pe_op op_mulW (pe_ix (ix_K K) (pv 2) (pv 6) (fun _ _ => rfl)) (pe_ix (ix_K K) (pv 3) (pe_op op_sub (pv 4) (pv 6)) (fun _ _ => rfl)))))))
      (pss_one (ps_expr (pe_bm PySem.F.plainAttrs_list PySem.F.slot_list_append PySem.F.type_list_append mt_append (pv 3) (pa_cons (pv 5) pa_nil)))))))
      (pss_one (ps_ret (pe_ix (ix_K K) (pv 3) (pv 1) (fun _ _ => rfl))))))))), ?_⟩
    have w0 : Wd K E.C_Trade [] [] H H _ [.t n ps, .d (.int (k : Nat)), .u, .u, .u, .u, .u] := Wd.start2 (N := N_how_many) (c1 := .t n ps) (c2 := .d (.int (k : Nat))) a1 a2
    refine q_drop w0 (ev_call (ea_cons (ev_var (i := 0) w0 rfl) ea_nil) ⟨_, _, rfl, rfl⟩) fun H1 w1 => ?_
    refine s_when w1 (b := false) (et_cast (et_not (et_truB (ev_call (ea_cons (ev_var (i := 1) w1 rfl) (ea_cons ev_int (ea_cons ev_int ea_nil))) ⟨_, _, _, rfl, rfl⟩))) (by simp [isWhole]; omega)) (fun z => by cases z) (fun _ H2 w2 => ?_)
    refine q_asgN w2 (en_call (ea_cons (ev_var (i := 0) w2 rfl) ea_nil) ⟨n, ps, h6, rfl, rfl⟩) fun pc σ3 H3 _ w3 => ?_
    refine q_asgN w3 (en_lst (ds := iL (foL n ps 1)) (ed_cons ev_int ed_nil) (Nat.le_of_ble_eq_true rfl)) fun pf σ4 H4 _ w4 => ?_
    have w4' : Wd K E.C_Trade [] [] H H4 σ4 [.t n ps, .d (.int (k : Nat)), .l pc (iL (scL n ps)), .l pf (iL (foL n ps 1)), .u, .u, .u] := w4
    refine q_forR2 w4' (lo := 1) (n := (k : Int) + 1) (ea_cons ev_int (ea_cons (ev_addI (ev_var (i := 1) w4' rfl) ev_int) ea_nil)) (by omega) (fun t σ H' => ∃ c4 c5 c6, Wd K E.C_Trade [] [] H H' σ [.t n ps, .d (.int (k : Nat)), .l pc (iL (scL n ps)), .l pf (iL (foL n ps (t + 1))), c4, c5, c6]) (fun H5 w5 => ⟨_, _, _, w5⟩) ?_ ?_
    · rintro t σ H' ht ⟨c4, c5, c6, w5⟩
      have e1 : 1 + ((t : Nat) : Int) = ((t + 1 : Nat) : Int) := by omega
      rw [e1]
      have w6 : Wd K E.C_Trade [] [] H H' _ [.t n ps, .d (.int (k : Nat)), .l pc (iL (scL n ps)), .l pf (iL (foL n ps (t + 1))), .d (.int (t + 1 : Nat)), c5, c6] := w5.set 4 (v := .int (t + 1 : Nat)) (c := .d (.int (t + 1 : Nat))) (Td.int _)
      refine q_asgD w6 (d := .int (- sumS' n ps (t + 1) 0)) ev_int fun σ7 H7 w7 => ?_
      have w7' : Wd K E.C_Trade [] [] H H7 σ7 [.t n ps, .d (.int (k : Nat)), .l pc (iL (scL n ps)), .l pf (iL (foL n ps (t + 1))), .d (.int (t + 1 : Nat)), .d (.int (- sumS' n ps (t + 1) 0)), c6] := w7
      refine q_forR2 w7' (lo := 1) (n := min ((t + 1 : Nat) : Int) (n : Int) + 1) (ea_cons ev_int (ea_cons (ev_addI (ev_min2 (ev_var (i := 4) w7' rfl) (ev_letters (ev_var (i := 0) w7' rfl))) ev_int) ea_nil)) (by omega) (fun u σ H' => ∃ c6, Wd K E.C_Trade [] [] H H' σ [.t n ps, .d (.int (k : Nat)), .l pc (iL (scL n ps)), .l pf (iL (foL n ps (t + 1))), .d (.int (t + 1 : Nat)), .d (.int (- sumS' n ps (t + 1) u)), c6]) (fun H8 w8 => ⟨_, w8⟩) ?_ ?_
      · rintro u σ H' hu ⟨c6, w8⟩
        have e2 : 1 + ((u : Nat) : Int) = ((u + 1 : Nat) : Int) := by omega
        rw [e2]
        have w9 : Wd K E.C_Trade [] [] H H' _ [.t n ps, .d (.int (k : Nat)), .l pc (iL (scL n ps)), .l pf (iL (foL n ps (t + 1))), .d (.int (t + 1 : Nat)), .d (.int (- sumS' n ps (t + 1) u)), .d (.int (u + 1 : Nat))] := w8.set 6 (v := .int (u + 1 : Nat)) (c := .d (.int (u + 1 : Nat))) (Td.int _)
        refine s_asgD w9 (d := .int (- sumS' n ps (t + 1) (u + 1))) (ev_d (ev_i0 (ev_var (i := 5) w9 rfl) (ev_iC (d := .int (cS (grL ps n) (u + 1) * ((cnL n ps (t + 1 - (u + 1)) 0 : Nat) : Int))) (ev_ixL (ev_var (i := 2) w9 rfl) (ev_var (i := 6) w9 rfl) (atI_nat (scL_at (by omega)))) (ev_ixL (d := .int (cnL n ps (t + 1 - (u + 1)) 0 : Nat)) (ev_var (i := 3) w9 rfl) (ev_d (e := .int (t + 1 - (u + 1) : Nat)) (ev_i0 (ev_var (i := 4) w9 rfl) (ev_var (i := 6) w9 rfl) (fun _ => .int _)) (by congr 1; omega)) (atI_nat (foL_at (by omega)))) (wide_mul (cs_wide h6 ps _) (cn_wide h6 ps (by omega)) (by decide) (by decide) (by decide)) (fun _ => .int _)) (fun _ => .int _)) ?_) fun σa Ha wa => ⟨_, wa⟩
        rw [sumS'_succ]
        congr 1
        omega
      · rintro σ H' ⟨c6, w8⟩
        have e3 : (min ((t + 1 : Nat) : Int) (n : Int) + 1 - 1).toNat = min (t + 1) n := by omega
        rw [e3, ← cn_rule hok (Nat.succ_pos t)] at w8
        refine s_app w8 (i := 3) rfl (ev_var (i := 5) w8 rfl) (by rw [iL_len]; unfold foL; rw [List.length_map, List.length_range]; omega) fun H9 w9 => ⟨.d (.int (t + 1 : Nat)), .d (.int (cnL n ps (t + 1) 0 : Nat)), c6, ?_⟩
        have e4 : iL (foL n ps (t + 1 + 1)) = iL (foL n ps (t + 1)) ++ [.int (cnL n ps (t + 1) 0 : Nat)] := by
          unfold foL
          rw [List.range_succ (n := t + 1), List.map_append, iL_app]
          rfl
        rw [e4]
        exact w9
    · rintro σ H' ⟨c4, c5, c6, w5⟩
      have e5 : ((k : Int) + 1 - 1).toNat = k := by omega
      rw [e5] at w5
      exact s_retQ w5 q (ev_ixL (ev_var (i := 3) w5 rfl) (ev_var (i := 1) w5 rfl) (atI_nat (foL_at (by omega))))
end
end K1
set_option maxRecDepth 10000000
namespace K1
open PySem PySem.Spec PyProof.Rows L2 Pt
local macro_rules
  | `(tactic| walk_at "sz") => `(tactic| first
    | omega
    | decide
    | (simp; omega)
    | (simp [iL, row, pairsD]; omega))
  | `(tactic| walk_at "ea") => `(tactic| first
    | (with_reducible exact ea_nil)
    | ((with_reducible apply ea_consL); (focus (walk_at "ev")); (focus (walk_at "ea")))
    | ((with_reducible apply ea_consS); (focus (walk_at "ev")); (focus (walk_at "ea")))
    | ((with_reducible apply ea_cons); (focus (walk_at "ev")); (focus (walk_at "ea")))
    | ((with_reducible apply ea_consN); (focus (walk_at "en")); (focus (walk_at "ea"))))
  | `(tactic| walk_at "ed") => `(tactic| first
    | (with_reducible exact ed_nil)
    | ((with_reducible apply ed_cons); (focus (walk_at "ev")); (focus (walk_at "ed"))))
  | `(tactic| walk_at "en") => `(tactic| first
    | ((with_reducible apply en_lst); (focus (walk_at "ed")); (focus (simp)))
    | ((with_reducible apply en_listT); (focus (walk_at "ev")))
    | ((with_reducible apply en_addL); (focus (walk_at "ev")); (focus (walk_at "en")); (focus (walk_at "sz")))
    | ((with_reducible apply en_addN); (focus (walk_at "en")); (focus (walk_at "en")); (focus (walk_at "sz")))
    | ((with_reducible apply en_slL); (focus (walk_at "ev")); (focus (walk_at "eo")); (focus (walk_at "eo"))))
  | `(tactic| walk_at "eo") => `(tactic| first
    | (with_reducible exact eo_none)
    | ((with_reducible apply eo_some); (focus (walk_at "ev"))))
  | `(tactic| walk_at "et") => `(tactic| first
    | (with_reducible exact et_yes)
    | ((with_reducible apply et_test); (focus (walk_at "ev")))
    | ((with_reducible apply et_B); (focus (walk_at "ev")))
    | ((with_reducible apply et_truB); (focus (walk_at "ev")))
    | ((with_reducible apply et_truT); (focus (walk_at "ev")))
    | ((with_reducible apply et_not); (focus (walk_at "et")))
    | ((with_reducible apply et_and); (focus (walk_at "et")); (focus (intro _; walk_at "et")))
    | ((with_reducible apply et_or); (focus (walk_at "et")); (focus (intro _; walk_at "et"))))
  | `(tactic| walk_at "var") => `(tactic| first
    | ((with_reducible apply ev_varD); (focus (assumption)); (focus (rfl)))
    | ((with_reducible apply ev_varL); (focus (assumption)); (focus (rfl)))
    | ((with_reducible apply ev_varS); (focus (assumption)); (focus (rfl)))
    | ((with_reducible apply ev_varT); (focus (assumption)); (focus (rfl)))
    | ((with_reducible apply ev_varH); (focus (assumption)); (focus (rfl)))
    | ((with_reducible apply ev_varZ); (focus (assumption)); (focus (rfl))))
  | `(tactic| walk_at "ev") => `(tactic| first
    | walk_at "var"
    | (with_reducible exact ev_int)
    | (with_reducible exact ev_bl)
    | (with_reducible exact ev_str)
    | (with_reducible exact ev_non)
    | ((with_reducible apply ev_letters); (focus (walk_at "ev")))
    | ((with_reducible apply ev_pairs); (focus (walk_at "ev")))
    | ((with_reducible apply ev_addI); (focus (walk_at "ev")); (focus (walk_at "ev")))
    | ((with_reducible apply ev_addT); (focus (walk_at "ev")); (focus (walk_at "ev")); (focus (walk_at "sz")))
    | ((with_reducible apply ev_i0); (focus (walk_at "ev")); (focus (walk_at "ev")); (focus (first | exact fun _ => .int _ | exact fun _ => .bl _)))
    | ((with_reducible apply ev_iC); (focus (walk_at "ev")); (focus (walk_at "ev")); (focus (first | assumption | walk_at "cond")); (focus (exact fun _ => .int _)))
    | ((with_reducible apply ev_chain); (focus (walk_at "ev")); (focus (walk_at "ev")); (focus (walk_at "ev")))
    | ((with_reducible apply ev_eqI); (focus (walk_at "ev")); (focus (walk_at "ev")))
    | ((with_reducible apply ev_neI); (focus (walk_at "ev")); (focus (walk_at "ev")))
    | ((with_reducible apply ev_eqR); (focus (walk_at "ev")); (focus (walk_at "ev")))
    | ((with_reducible apply ev_neR); (focus (walk_at "ev")); (focus (walk_at "ev")))
    | ((with_reducible apply ev_isN); (focus (walk_at "ev")))
    | ((with_reducible apply ev_notN); (focus (walk_at "ev")))
    | ((with_reducible apply ev_in2); (focus (walk_at "ev")); (focus (walk_at "ev")); (focus (walk_at "ev")))
    | ((with_reducible apply ev_inP); (focus (walk_at "ev")); (focus (walk_at "ev")))
    | ((with_reducible apply ev_tup); (focus (walk_at "ed")); (focus (simp)))
    | ((with_reducible apply ev_lenT); (focus (walk_at "ev")))
    | ((with_reducible apply ev_lenL); (focus (walk_at "ev")))
    | ((with_reducible apply ev_lenS); (focus (walk_at "ev")))
    | ((with_reducible apply ev_lenN); (focus (walk_at "en")))
    | ((with_reducible apply ev_max2); (focus (walk_at "ev")); (focus (walk_at "ev")))
    | ((with_reducible apply ev_min2); (focus (walk_at "ev")); (focus (walk_at "ev")))
    | ((with_reducible apply ev_int1); (focus (walk_at "ev")))
    | ((with_reducible apply ev_tupleL); (focus (walk_at "ev")))
    | ((with_reducible apply ev_tupleN); (focus (walk_at "en")))
    | ((with_reducible apply ev_countT); (focus (walk_at "ev")); (focus (walk_at "ev")))
    | ((with_reducible apply ev_andV); (focus (walk_at "ev")); (focus (intro _; walk_at "ev")))
    | ((with_reducible apply ev_orV); (focus (walk_at "ev")); (focus (intro _; walk_at "ev")))
    | ((with_reducible apply ev_notV); (focus (walk_at "ev"))))
section
variable {P : Program} {w : World} {K : PySem.W.Frag} {mg : Str → Option Value} {base : Heap}
end
end K1
set_option maxRecDepth 10000000
namespace K1
open PySem PySem.Spec PyProof.Rows L2 Pt
local macro_rules
  | `(tactic| walk_at "sz") => `(tactic| first
    | omega
    | decide
    | (simp; omega)
    | (simp [iL, row, pairsD]; omega))
  | `(tactic| walk_at "ea") => `(tactic| first
    | (with_reducible exact ea_nil)
    | ((with_reducible apply ea_consL); (focus (walk_at "ev")); (focus (walk_at "ea")))
    | ((with_reducible apply ea_consS); (focus (walk_at "ev")); (focus (walk_at "ea")))
    | ((with_reducible apply ea_cons); (focus (walk_at "ev")); (focus (walk_at "ea")))
    | ((with_reducible apply ea_consN); (focus (walk_at "en")); (focus (walk_at "ea"))))
  | `(tactic| walk_at "ed") => `(tactic| first
    | (with_reducible exact ed_nil)
    | ((with_reducible apply ed_cons); (focus (walk_at "ev")); (focus (walk_at "ed"))))
  | `(tactic| walk_at "en") => `(tactic| first
    | ((with_reducible apply en_lst); (focus (walk_at "ed")); (focus (simp)))
    | ((with_reducible apply en_listT); (focus (walk_at "ev")))
    | ((with_reducible apply en_addL); (focus (walk_at "ev")); (focus (walk_at "en")); (focus (walk_at "sz")))
    | ((with_reducible apply en_addN); (focus (walk_at "en")); (focus (walk_at "en")); (focus (walk_at "sz")))
    | ((with_reducible apply en_slL); (focus (walk_at "ev")); (focus (walk_at "eo")); (focus (walk_at "eo"))))
  | `(tactic| walk_at "eo") => `(tactic| first
    | (with_reducible exact eo_none)
    | ((with_reducible apply eo_some); (focus (walk_at "ev"))))
  | `(tactic| walk_at "et") => `(tactic| first
    | (with_reducible exact et_yes)
    | ((with_reducible apply et_test); (focus (walk_at "ev")))
    | ((with_reducible apply et_B); (focus (walk_at "ev")))
    | ((with_reducible apply et_truB); (focus (walk_at "ev")))
    | ((with_reducible apply et_truT); (focus (walk_at "ev")))
    | ((with_reducible apply et_not); (focus (walk_at "et")))
    | ((with_reducible apply et_and); (focus (walk_at "et")); (focus (intro _; walk_at "et")))
    | ((with_reducible apply et_or); (focus (walk_at "et")); (focus (intro _; walk_at "et"))))
  | `(tactic| walk_at "var") => `(tactic| first
    | ((with_reducible apply ev_varD); (focus (assumption)); (focus (rfl)))
    | ((with_reducible apply ev_varL); (focus (assumption)); (focus (rfl)))
    | ((with_reducible apply ev_varS); (focus (assumption)); (focus (rfl)))
    | ((with_reducible apply ev_varT); (focus (assumption)); (focus (rfl)))
    | ((with_reducible apply ev_varH); (focus (assumption)); (focus (rfl)))
    | ((with_reducible apply ev_varZ); (focus (assumption)); (focus (rfl))))
  | `(tactic| walk_at "ev") => `(tactic| first
    | walk_at "var"
    | (with_reducible exact ev_int)
    | (with_reducible exact ev_bl)
    | (with_reducible exact ev_str)
    | (with_reducible exact ev_non)
    | ((with_reducible apply ev_letters); (focus (walk_at "ev")))
    | ((with_reducible apply ev_pairs); (focus (walk_at "ev")))
    | ((with_reducible apply ev_addI); (focus (walk_at "ev")); (focus (walk_at "ev")))
    | ((with_reducible apply ev_addT); (focus (walk_at "ev")); (focus (walk_at "ev")); (focus (walk_at "sz")))
    | ((with_reducible apply ev_i0); (focus (walk_at "ev")); (focus (walk_at "ev")); (focus (first | exact fun _ => .int _ | exact fun _ => .bl _)))
    | ((with_reducible apply ev_iC); (focus (walk_at "ev")); (focus (walk_at "ev")); (focus (first | assumption | walk_at "cond")); (focus (exact fun _ => .int _)))
    | ((with_reducible apply ev_chain); (focus (walk_at "ev")); (focus (walk_at "ev")); (focus (walk_at "ev")))
    | ((with_reducible apply ev_eqI); (focus (walk_at "ev")); (focus (walk_at "ev")))
    | ((with_reducible apply ev_neI); (focus (walk_at "ev")); (focus (walk_at "ev")))
    | ((with_reducible apply ev_eqR); (focus (walk_at "ev")); (focus (walk_at "ev")))
    | ((with_reducible apply ev_neR); (focus (walk_at "ev")); (focus (walk_at "ev")))
    | ((with_reducible apply ev_isN); (focus (walk_at "ev")))
    | ((with_reducible apply ev_notN); (focus (walk_at "ev")))
    | ((with_reducible apply ev_in2); (focus (walk_at "ev")); (focus (walk_at "ev")); (focus (walk_at "ev")))
    | ((with_reducible apply ev_inP); (focus (walk_at "ev")); (focus (walk_at "ev")))
    | ((with_reducible apply ev_tup); (focus (walk_at "ed")); (focus (simp)))
    | ((with_reducible apply ev_lenT); (focus (walk_at "ev")))
    | ((with_reducible apply ev_lenL); (focus (walk_at "ev")))
    | ((with_reducible apply ev_lenS); (focus (walk_at "ev")))
    | ((with_reducible apply ev_lenN); (focus (walk_at "en")))
    | ((with_reducible apply ev_max2); (focus (walk_at "ev")); (focus (walk_at "ev")))
    | ((with_reducible apply ev_min2); (focus (walk_at "ev")); (focus (walk_at "ev")))
    | ((with_reducible apply ev_int1); (focus (walk_at "ev")))
    | ((with_reducible apply ev_tupleL); (focus (walk_at "ev")))
    | ((with_reducible apply ev_tupleN); (focus (walk_at "en")))
    | ((with_reducible apply ev_countT); (focus (walk_at "ev")); (focus (walk_at "ev")))
    | ((with_reducible apply ev_andV); (focus (walk_at "ev")); (focus (intro _; walk_at "ev")))
    | ((with_reducible apply ev_orV); (focus (walk_at "ev")); (focus (intro _; walk_at "ev")))
    | ((with_reducible apply ev_notV); (focus (walk_at "ev"))))
section
variable {P : Program} {w : World} {K : PySem.W.Frag} {mg : Str → Option Value} {base : Heap}
end
end K1
set_option maxRecDepth 10000000
namespace K1
open PySem PySem.Spec PyProof.Rows L2 Pt
local macro_rules
  | `(tactic| walk_at "sz") => `(tactic| first
    | omega
    | decide
    | (simp; omega)
    | (simp [iL, row, pairsD]; omega))
  | `(tactic| walk_at "ea") => `(tactic| first
    | (with_reducible exact ea_nil)
    | ((with_reducible apply ea_consL); (focus (walk_at "ev")); (focus (walk_at "ea")))
    | ((with_reducible apply ea_consS); (focus (walk_at "ev")); (focus (walk_at "ea")))
    | ((with_reducible apply ea_cons); (focus (walk_at "ev")); (focus (walk_at "ea")))
    | ((with_reducible apply ea_consN); (focus (walk_at "en")); (focus (walk_at "ea"))))
  | `(tactic| walk_at "ed") => `(tactic| first
    | (with_reducible exact ed_nil)
    | ((with_reducible apply ed_cons); (focus (walk_at "ev")); (focus (walk_at "ed"))))
  | `(tactic| walk_at "en") => `(tactic| first
    | ((with_reducible apply en_lst); (focus (walk_at "ed")); (focus (simp)))
    | ((with_reducible apply en_listT); (focus (walk_at "ev")))
    | ((with_reducible apply en_addL); (focus (walk_at "ev")); (focus (walk_at "en")); (focus (walk_at "sz")))
    | ((with_reducible apply en_addN); (focus (walk_at "en")); (focus (walk_at "en")); (focus (walk_at "sz")))
    | ((with_reducible apply en_slL); (focus (walk_at "ev")); (focus (walk_at "eo")); (focus (walk_at "eo"))))
  | `(tactic| walk_at "eo") => `(tactic| first
    | (with_reducible exact eo_none)
    | ((with_reducible apply eo_some); (focus (walk_at "ev"))))
  | `(tactic| walk_at "et") => `(tactic| first
    | (with_reducible exact et_yes)
    | ((with_reducible apply et_test); (focus (walk_at "ev")))
    | ((with_reducible apply et_B); (focus (walk_at "ev")))
    | ((with_reducible apply et_truB); (focus (walk_at "ev")))
    | ((with_reducible apply et_truT); (focus (walk_at "ev")))
    | ((with_reducible apply et_not); (focus (walk_at "et")))
    | ((with_reducible apply et_and); (focus (walk_at "et")); (focus (intro _; walk_at "et")))
    | ((with_reducible apply et_or); (focus (walk_at "et")); (focus (intro _; walk_at "et"))))
  | `(tactic| walk_at "var") => `(tactic| first
    | ((with_reducible apply ev_varD); (focus (assumption)); (focus (rfl)))
    | ((with_reducible apply ev_varL); (focus (assumption)); (focus (rfl)))
    | ((with_reducible apply ev_varS); (focus (assumption)); (focus (rfl)))
    | ((with_reducible apply ev_varT); (focus (assumption)); (focus (rfl)))
    | ((with_reducible apply ev_varH); (focus (assumption)); (focus (rfl)))
    | ((with_reducible apply ev_varZ); (focus (assumption)); (focus (rfl))))
  | `(tactic| walk_at "ev") => `(tactic| first
    | walk_at "var"
    | (with_reducible exact ev_int)
    | (with_reducible exact ev_bl)
    | (with_reducible exact ev_str)
    | (with_reducible exact ev_non)
    | ((with_reducible apply ev_letters); (focus (walk_at "ev")))
    | ((with_reducible apply ev_pairs); (focus (walk_at "ev")))
    | ((with_reducible apply ev_addI); (focus (walk_at "ev")); (focus (walk_at "ev")))
    | ((with_reducible apply ev_addT); (focus (walk_at "ev")); (focus (walk_at "ev")); (focus (walk_at "sz")))
    | ((with_reducible apply ev_i0); (focus (walk_at "ev")); (focus (walk_at "ev")); (focus (first | exact fun _ => .int _ | exact fun _ => .bl _)))
    | ((with_reducible apply ev_iC); (focus (walk_at "ev")); (focus (walk_at "ev")); (focus (first | assumption | walk_at "cond")); (focus (exact fun _ => .int _)))
    | ((with_reducible apply ev_chain); (focus (walk_at "ev")); (focus (walk_at "ev")); (focus (walk_at "ev")))
    | ((with_reducible apply ev_eqI); (focus (walk_at "ev")); (focus (walk_at "ev")))
    | ((with_reducible apply ev_neI); (focus (walk_at "ev")); (focus (walk_at "ev")))
    | ((with_reducible apply ev_eqR); (focus (walk_at "ev")); (focus (walk_at "ev")))
    | ((with_reducible apply ev_neR); (focus (walk_at "ev")); (focus (walk_at "ev")))
    | ((with_reducible apply ev_isN); (focus (walk_at "ev")))
    | ((with_reducible apply ev_notN); (focus (walk_at "ev")))
    | ((with_reducible apply ev_in2); (focus (walk_at "ev")); (focus (walk_at "ev")); (focus (walk_at "ev")))
    | ((with_reducible apply ev_inP); (focus (walk_at "ev")); (focus (walk_at "ev")))
    | ((with_reducible apply ev_tup); (focus (walk_at "ed")); (focus (simp)))
    | ((with_reducible apply ev_lenT); (focus (walk_at "ev")))
    | ((with_reducible apply ev_lenL); (focus (walk_at "ev")))
    | ((with_reducible apply ev_lenS); (focus (walk_at "ev")))
    | ((with_reducible apply ev_lenN); (focus (walk_at "en")))
    | ((with_reducible apply ev_max2); (focus (walk_at "ev")); (focus (walk_at "ev")))
    | ((with_reducible apply ev_min2); (focus (walk_at "ev")); (focus (walk_at "ev")))
    | ((with_reducible apply ev_int1); (focus (walk_at "ev")))
    | ((with_reducible apply ev_tupleL); (focus (walk_at "ev")))
    | ((with_reducible apply ev_tupleN); (focus (walk_at "en")))
    | ((with_reducible apply ev_countT); (focus (walk_at "ev")); (focus (walk_at "ev")))
    | ((with_reducible apply ev_andV); (focus (walk_at "ev")); (focus (intro _; walk_at "ev")))
    | ((with_reducible apply ev_orV); (focus (walk_at "ev")); (focus (intro _; walk_at "ev")))
    | ((with_reducible apply ev_notV); (focus (walk_at "ev"))))
section
variable {P : Program} {w : World} {K : PySem.W.Frag} {mg : Str → Option Value} {base : Heap}
theorem bitAndN (a b : Nat) : Builtin.bitAnd (a : Int) (b : Int) = ((a &&& b : Nat) : Int) := by
  rw [bitAnd_pp (Int.natCast_nonneg a) (Int.natCast_nonneg b)]
  simp
end
end K1
set_option maxRecDepth 10000000
namespace K1
open PySem PySem.Spec PyProof.Rows L2 Pt
local macro_rules
  | `(tactic| walk_at "sz") => `(tactic| first
    | omega
    | decide
    | (simp; omega)
    | (simp [iL, row, pairsD]; omega))
  | `(tactic| walk_at "ea") => `(tactic| first
    | (with_reducible exact ea_nil)
    | ((with_reducible apply ea_consL); (focus (walk_at "ev")); (focus (walk_at "ea")))
    | ((with_reducible apply ea_consS); (focus (walk_at "ev")); (focus (walk_at "ea")))
    | ((with_reducible apply ea_cons); (focus (walk_at "ev")); (focus (walk_at "ea")))
    | ((with_reducible apply ea_consN); (focus (walk_at "en")); (focus (walk_at "ea"))))
  | `(tactic| walk_at "ed") => `(tactic| first
    | (with_reducible exact ed_nil)
    | ((with_reducible apply ed_cons); (focus (walk_at "ev")); (focus (walk_at "ed"))))
  | `(tactic| walk_at "en") => `(tactic| first
    | ((with_reducible apply en_lst); (focus (walk_at "ed")); (focus (simp)))
    | ((with_reducible apply en_listT); (focus (walk_at "ev")))
    | ((with_reducible apply en_addL); (focus (walk_at "ev")); (focus (walk_at "en")); (focus (walk_at "sz")))
    | ((with_reducible apply en_addN); (focus (walk_at "en")); (focus (walk_at "en")); (focus (walk_at "sz")))
    | ((with_reducible apply en_slL); (focus (walk_at "ev")); (focus (walk_at "eo")); (focus (walk_at "eo"))))
  | `(tactic| walk_at "eo") => `(tactic| first
    | (with_reducible exact eo_none)
    | ((with_reducible apply eo_some); (focus (walk_at "ev"))))
  | `(tactic| walk_at "et") => `(tactic| first
    | (with_reducible exact et_yes)
    | ((with_reducible apply et_test); (focus (walk_at "ev")))
    | ((with_reducible apply et_B); (focus (walk_at "ev")))
    | ((with_reducible apply et_truB); (focus (walk_at "ev")))
    | ((with_reducible apply et_truT); (focus (walk_at "ev")))
    | ((with_reducible apply et_not); (focus (walk_at "et")))
    | ((with_reducible apply et_and); (focus (walk_at "et")); (focus (intro _; walk_at "et")))
    | ((with_reducible apply et_or); (focus (walk_at "et")); (focus (intro _; walk_at "et"))))
  | `(tactic| walk_at "var") => `(tactic| first
    | ((with_reducible apply ev_varD); (focus (assumption)); (focus (rfl)))
    | ((with_reducible apply ev_varL); (focus (assumption)); (focus (rfl)))
    | ((with_reducible apply ev_varS); (focus (assumption)); (focus (rfl)))
    | ((with_reducible apply ev_varT); (focus (assumption)); (focus (rfl)))
    | ((with_reducible apply ev_varH); (focus (assumption)); (focus (rfl)))
    | ((with_reducible apply ev_varZ); (focus (assumption)); (focus (rfl))))
  | `(tactic| walk_at "ev") => `(tactic| first
    | walk_at "var"
    | (with_reducible exact ev_int)
    | (with_reducible exact ev_bl)
    | (with_reducible exact ev_str)
    | (with_reducible exact ev_non)
    | ((with_reducible apply ev_letters); (focus (walk_at "ev")))
    | ((with_reducible apply ev_pairs); (focus (walk_at "ev")))
    | ((with_reducible apply ev_addI); (focus (walk_at "ev")); (focus (walk_at "ev")))
    | ((with_reducible apply ev_addT); (focus (walk_at "ev")); (focus (walk_at "ev")); (focus (walk_at "sz")))
    | ((with_reducible apply ev_i0); (focus (walk_at "ev")); (focus (walk_at "ev")); (focus (first | exact fun _ => .int _ | exact fun _ => .bl _)))
    | ((with_reducible apply ev_iC); (focus (walk_at "ev")); (focus (walk_at "ev")); (focus (first | assumption | walk_at "cond")); (focus (exact fun _ => .int _)))
    | ((with_reducible apply ev_chain); (focus (walk_at "ev")); (focus (walk_at "ev")); (focus (walk_at "ev")))
    | ((with_reducible apply ev_eqI); (focus (walk_at "ev")); (focus (walk_at "ev")))
    | ((with_reducible apply ev_neI); (focus (walk_at "ev")); (focus (walk_at "ev")))
    | ((with_reducible apply ev_eqR); (focus (walk_at "ev")); (focus (walk_at "ev")))
    | ((with_reducible apply ev_neR); (focus (walk_at "ev")); (focus (walk_at "ev")))
    | ((with_reducible apply ev_isN); (focus (walk_at "ev")))
    | ((with_reducible apply ev_notN); (focus (walk_at "ev")))
    | ((with_reducible apply ev_in2); (focus (walk_at "ev")); (focus (walk_at "ev")); (focus (walk_at "ev")))
    | ((with_reducible apply ev_inP); (focus (walk_at "ev")); (focus (walk_at "ev")))
    | ((with_reducible apply ev_tup); (focus (walk_at "ed")); (focus (simp)))
    | ((with_reducible apply ev_lenT); (focus (walk_at "ev")))
    | ((with_reducible apply ev_lenL); (focus (walk_at "ev")))
    | ((with_reducible apply ev_lenS); (focus (walk_at "ev")))
    | ((with_reducible apply ev_lenN); (focus (walk_at "en")))
    | ((with_reducible apply ev_max2); (focus (walk_at "ev")); (focus (walk_at "ev")))
    | ((with_reducible apply ev_min2); (focus (walk_at "ev")); (focus (walk_at "ev")))
    | ((with_reducible apply ev_int1); (focus (walk_at "ev")))
    | ((with_reducible apply ev_tupleL); (focus (walk_at "ev")))
    | ((with_reducible apply ev_tupleN); (focus (walk_at "en")))
    | ((with_reducible apply ev_countT); (focus (walk_at "ev")); (focus (walk_at "ev")))
    | ((with_reducible apply ev_andV); (focus (walk_at "ev")); (focus (intro _; walk_at "ev")))
    | ((with_reducible apply ev_orV); (focus (walk_at "ev")); (focus (intro _; walk_at "ev")))
    | ((with_reducible apply ev_notV); (focus (walk_at "ev"))))
section
variable {P : Program} {w : World} {K : PySem.W.Frag} {mg : Str → Option Value} {base : Heap}
structure CsOk (n : Nat) (cs : List Int) : Prop where
  len : cs.length = n
  few : ∀ c ∈ cs, 0 ≤ c ∧ c ≤ 12
  sum : cs.sum ≤ 40
theorem CsOk.at {n : Nat} {cs : List Int} (h : CsOk n cs) {t : Nat} (ht : t < cs.length) : 0 ≤ cs[t] ∧ cs[t] ≤ 12 := h.few _ (List.getElem_mem ht)
abbrev A_check_counts (as : List Ag) (d : PyData) : Prop := ∃ (n : Nat) (ps : List (Int × Int)) (cs : List Int), n ≤ 6 ∧ CsOk n cs ∧ as = [.c (.t n ps), .c (.d (row cs))] ∧ d = .none
theorem ok_check_counts (E : Nv K mg) : FnOk P w K mg base CX0 12 E.a_check_counts E.d_check_counts ["trade", "counts"] (spC K E.C_Trade A_check_counts) := by
  refine E.F_check_counts.ok sc_check_counts (fun vs H Q _ h => ?_) (fun cdv A outer s H vs Q _ hr h => ?_)
  · obtain ⟨as, d, ha, ⟨_, _, _, _, _, rfl, _⟩, _⟩ := h
    exact ha.length
  · obtain ⟨as, d, ha, ⟨n, ps, cs, h6, hc, rfl, rfl⟩, q⟩ := h
    obtain ⟨v1, v2, rfl, a1, a2⟩ := ha.two
    refine ⟨_, (pss_cons (ps_if (PW.pt (pw_or (pt_not (pt_truK K (pe_callB (call_isiK K) (by rfl) E.n_isinstance (by decide +kernel) (pa_cons (pv 1) (pa_cons (pe_bltn (v := .ty "tuple") (by rfl) E.n_tuple (by decide +kernel) rfl) pa_nil))) (fun _ => rfl))) (pw_or1 (pt_cmpR (op_neK K hr.units) (pe_callB (call_lenK K) (by rfl) E.n_len (by decide +kernel) (pa_cons (pv 1) pa_nil)) (pe_prop (pv 0) E.cl E.p_letters (ok_Trade_letters E) (hr.mono (by first | decide | omega)) E.b_Trade_letters .nil pass0 rfl) (nomark _))))) (pss_one ps_never) pss_nil)
      (pss_cons (ps_if (pt_not (pt_truK K (pe_callB (call_allK K rfl) (by rfl) E.n_all (by decide +kernel) (pa_cons (pe_lc (own := [("count", 2)]) (g := gName 2) (by rfl) sc_check_counts.nd (pi_tupK K (pv 1)) (blkOk_by (own := [("count", 2)]) (N := N_check_counts) (sc := defScope s_check_counts) (by decide +kernel)) (fun _ _ _ _ _ => (pg_name (i := 2) sc_check_counts.nd rfl (Or.inl rfl))) (fun _ _ _ _ _ => pts_nil) (fun _ _ _ _ _ => (pe_call (ok_is_whole E) (hr.mono (by first | decide | omega)) (by rfl) E.m_is_whole E.F_is_whole.kp E.b_is_whole .nil pass0 (pa_cons (pv 2) (pa_cons pe_int (pa_cons (pe_glob (v := .int 12) (by rfl) E.c_MOST_OF_ONE ⟨_, rfl⟩) pa_nil)))))) pa_nil)) (fun _ => rfl))) (pss_one ps_never) pss_nil)
      (pss_one (ps_if (pt_cmpR (op_gt) (pe_callB (cr_sumTK K rfl) (by rfl) E.n_sum (by decide +kernel) (pa_cons (pv 1) pa_nil)) (pe_glob (v := .int 40) (by rfl) E.c_MOST_TOGETHER ⟨_, rfl⟩) (nomark _)) (pss_one ps_never) pss_nil)))), ?_⟩
    have hl := hc.len
    have w0 : Wd K E.C_Trade [] [] H H _ [.t n ps, .d (row cs), .u] := Wd.start2 (N := N_check_counts) (c1 := .t n ps) (c2 := .d (row cs)) a1 a2
    refine s_when w0 (b := false) (et_cast (et_or (et_not (et_truB (ev_isiT (b := true) (ev_var (i := 1) w0 rfl) (by decide +kernel)))) (fun _ => et_test (ev_neI (ev_d (e := .int (cs.length : Nat)) (ev_lenT (ev_var (i := 1) w0 rfl)) (by rw [iL_len])) (ev_letters (ev_var (i := 0) w0 rfl))))) (by rw [hl]; simp)) (fun z => by cases z) (fun _ H1 w1 => ?_)
    refine s_when w1 (b := false) (et_cast (et_not (et_truB (ev_allK (f := fun x => decide (0 ≤ x) && decide (x ≤ 12)) (l := cs) (en_lcT (j := 2) (mk := PyData.int) w1 (ev_var (i := 1) w1 rfl) (fun _ => true) _ (by omega) (fun x _ σ1 H1 w1 => et_yes) (fun x _ σ1 H1 w1 _ => ev_call (ea_cons (ev_var (i := 2) w1 rfl) (ea_cons ev_int (ea_cons ev_int ea_nil))) ⟨x, 0, 12, rfl, rfl⟩))))) ?_) (fun z => by cases z) (fun _ H2 w2 => ?_)
    · have : (cs.all fun x => decide (0 ≤ x) && decide (x ≤ 12)) = true := List.all_eq_true.mpr fun x hx => by
        have := hc.few x hx
        simp
        omega
      rw [this]
      rfl
    refine s_if w2 (b := false) (et_cast (et_test (ev_i0 (ev_sumT (ev_var (i := 1) w2 rfl)) ev_int (fun _ => .bl _))) (decide_eq_false (by have := hc.sum; omega))) (fun z => by cases z) (fun _ H3 w3 => s_next (q _ H3 w3.fr0 .non))
def bitsN (g : List Int) : Nat := (g.map fun x => 2 ^ x.toNat).sum
theorem bits_sum : ∀ g : List Int, (g.map fun x => (1 : Int) * 2 ^ x.toNat).sum = ((bitsN g : Nat) : Int)
  | [] => rfl
  | x :: g => by
    rw [List.map_cons, List.sum_cons, bits_sum g]
    unfold bitsN
    rw [List.map_cons, List.sum_cons, Int.one_mul, Int.natCast_add]
    congr 1
    all_goals simp
abbrev A_bits_of (as : List Ag) (d : PyData) : Prop := ∃ (g : List Int), g.length ≤ 20 ∧ (∀ x ∈ g, 0 ≤ x ∧ x < 20) ∧ as = [.c (.d (row g))] ∧ d = .int (bitsN g : Nat)
theorem ok_bits_of (E : Nv K mg) : FnOk P w K mg base CX0 4 E.a_bits_of E.d_bits_of ["group"] (spC K E.C_Trade A_bits_of) := by
  refine E.F_bits_of.ok sc_bits_of (fun vs H Q _ h => ?_) (fun cdv A outer s H vs Q _ hr h => ?_)
  · obtain ⟨as, d, ha, ⟨_, _, _, rfl, _⟩, _⟩ := h
    exact ha.length
  · obtain ⟨as, d, ha, ⟨g, hl, hg, rfl, rfl⟩, q⟩ := h
    obtain ⟨v1, rfl, a1⟩ := ha.one
    refine ⟨_, (pss_one (ps_ret (pe_callB (cr_sumK K rfl) (by rfl) E.n_sum (by decide +kernel) (pa_cons (pe_lc (own := [("letter", 1)]) (g := gName 1) (by rfl) sc_bits_of.nd (pi_tupK K (pv 0)) (blkOk_by (own := [("letter", 1)]) (N := N_bits_of) (sc := defScope s_bits_of) (by decide +kernel)) (fun _ _ _ _ _ => (pg_name (i := 1) sc_bits_of.nd rfl (Or.inl rfl))) (fun _ _ _ _ _ => pts_nil) (fun _ _ _ _ _ => (pe_op op_shl pe_int (pv 1)))) pa_nil)))), ?_⟩
    have w0 : Wd K E.C_Trade [] [] H H _ [.d (row g), .u] := Wd.start1 (N := N_bits_of) (c1 := .d (row g)) a1
    refine s_retQ w0 q (ev_d (ev_sumN (ns := g.map fun x => 1 * 2 ^ x.toNat) (en_cast (en_lcT (j := 1) (l := g) (mk := PyData.int) w0 (ev_var (i := 0) w0 rfl) (fun _ => true) (fun x => .int (1 * 2 ^ x.toNat)) (by omega) (fun x _ σ1 H1 w1 => et_yes) (fun x hx σ1 H1 w1 _ => ev_iC ev_int (ev_var (i := 1) w1 rfl) ⟨by have := hg x hx; omega, by have := hg x hx; omega, by decide⟩ (fun _ => .int _))) (by rw [kept_all]; unfold iL; rw [List.map_map]; rfl))) (by rw [bits_sum]))
def farTo (cs g : List Int) : Nat → Nat
  | 0 => 0
  | t + 1 => farTo cs g t * ((cs.getD t 0).toNat + 1) + g.count ((t : Nat) : Int)
abbrev farN (cs g : List Int) : Nat := farTo cs g cs.length
abbrev A_far_back (as : List Ag) (d : PyData) : Prop := ∃ (n : Nat) (cs g : List Int), n ≤ 6 ∧ CsOk n cs ∧ g.length ≤ 20 ∧ as = [.c (.d (row cs)), .c (.d (row g))] ∧ d = .int (farN cs g : Nat)
theorem ok_far_back (E : Nv K mg) : FnOk P w K mg base CX0 4 E.a_far_back E.d_far_back ["counts", "group"] (spC K E.C_Trade A_far_back) := by
  refine E.F_far_back.ok sc_far_back (fun vs H Q _ h => ?_) (fun cdv A outer s H vs Q _ hr h => ?_)
  · obtain ⟨as, d, ha, ⟨_, _, _, _, _, _, rfl, _⟩, _⟩ := h
    exact ha.length
  · obtain ⟨as, d, ha, ⟨n, cs, g, h6, hc, hg, rfl, rfl⟩, q⟩ := h
    obtain ⟨v1, v2, rfl, a1, a2⟩ := ha.two
    refine ⟨_, (pss_cons (ps_set (i := 2) sc_far_back.nd rfl (.inl rfl) pe_int)
      (pss_cons (ps_for PassesOwn.never rfl (pi_enumTK K (by rfl) E.n_enumerate (pa_cons (pv 0) pa_nil)) (pg_tupK K (n := 2) rfl (pgs_cons (pg_name (i := 3) sc_far_back.nd rfl (.inl rfl)) (pgs_cons (pg_name (i := 4) sc_far_back.nd rfl (.inl rfl)) pgs_nil)))
      (pss_one (ps_set (i := 2) sc_far_back.nd rfl (.inl rfl) (pe_op (op_addK K) (pe_op op_mul (pv 2) (pe_op (op_addK K) (pv 4) pe_int)) (pe_bmT PySem.F.plainAttrs_tuple PySem.F.slot_tuple_count PySem.F.type_tuple_count (mt_tcountK K) (pv 1) (pa_cons (pv 3) pa_nil))))))
      (pss_one (ps_ret (pv 2))))), ?_⟩
    have w0 : Wd K E.C_Trade [] [] H H _ [.d (row cs), .d (row g), .u, .u, .u] := Wd.start2 (N := N_far_back) (c1 := .d (row cs)) (c2 := .d (row g)) a1 a2
    refine q_asgD w0 (d := .int (farTo cs g 0 : Nat)) ev_int fun σ1 H1 w1 => ?_
    have w1' : Wd K E.C_Trade [] [] H H1 σ1 [.d (row cs), .d (row g), .d (.int (farTo cs g 0 : Nat)), .u, .u] := w1
    refine q_forE w1' (ev_var (i := 0) w1' rfl) (fun a t σ H' => ∃ c3 c4, Wd K E.C_Trade [] [(.ref a, row cs)] H H' σ [.d (row cs), .d (row g), .d (.int (farTo cs g t : Nat)), c3, c4]) (fun a H2 w2 => ⟨_, _, w2⟩) (fun a t σ H' ⟨_, _, w2⟩ => w2.gh0) ?_ ?_
    · rintro a t d v σ' H' H2 hd tv ⟨c3, c4, w2⟩ e2
      have ht : t < cs.length := by
        have := (List.getElem?_eq_some_iff.mp hd).1
        rwa [iL_len] at this
      have ed : d = .int cs[t] := by
        rw [iL_get, List.getElem?_eq_getElem ht] at hd
        exact (Option.some.inj hd).symm
      subst ed
      have hb := hc.at ht
      have ge : cs.getD t 0 = cs[t] := by rw [List.getD_eq_getElem?_getD, List.getElem?_eq_getElem ht]; rfl
      have w3 : Wd K E.C_Trade [] [(.ref a, row cs)] H H2 _ [.d (row cs), .d (row g), .d (.int (farTo cs g t : Nat)), .d (.int (t : Nat)), .d (.int cs[t])] := ((w2.mono e2).set 3 (v := .int (t : Nat)) (c := .d (.int (t : Nat))) (Td.int _)).set 4 tv
      refine s_asgD w3 (d := .int (farTo cs g (t + 1) : Nat)) (ev_d (ev_addI (ev_iC (d := .int (((farTo cs g t : Nat) : Int) * (cs[t] + 1))) (ev_var (i := 2) w3 rfl) (ev_addI (ev_var (i := 4) w3 rfl) ev_int) (.inr ⟨by omega, by omega⟩) (fun _ => .int _)) (ev_countT (ev_var (i := 1) w3 rfl) (ev_var (i := 3) w3 rfl))) ?_) fun σ4 H4 w4 => ⟨_, _, w4⟩
      show PyData.int _ = .int ((farTo cs g t * ((cs.getD t 0).toNat + 1) + g.count ((t : Nat) : Int) : Nat) : Int)
      rw [ge, Int.natCast_add, Int.natCast_mul, Int.natCast_add, Int.toNat_of_nonneg hb.1]
      rfl
    · rintro a σ' H' ⟨c3, c4, w2⟩
      rw [iL_len] at w2
      exact s_retQ w2.unghost q (ev_var (i := 2) w2.unghost rfl)
def chTo (cs : List Int) : Nat → List Nat
  | 0 => [0]
  | t + 1 => ((chTo cs t).map fun b => (List.range ((cs.getD t 0).toNat + 1)).map fun m => b ||| (min m 1 * 2 ^ t)).flatten
abbrev chL (cs : List Int) : List Nat := chTo cs cs.length
def prodTo (cs : List Int) : Nat → Nat
  | 0 => 1
  | t + 1 => prodTo cs t * ((cs.getD t 0).toNat + 1)
theorem ch_len (cs : List Int) : ∀ t, (chTo cs t).length = prodTo cs t
  | 0 => rfl
  | t + 1 => by
    unfold chTo prodTo
    have : ∀ L : List Nat, ((L.map fun b => (List.range ((cs.getD t 0).toNat + 1)).map fun m => b ||| (min m 1 * 2 ^ t)).flatten).length = L.length * ((cs.getD t 0).toNat + 1) := fun L => by
      induction L with
      | nil => simp
      | cons b L ih => rw [List.map_cons, List.flatten_cons, List.length_append, ih, List.length_map, List.length_range, List.length_cons, Nat.succ_mul]; omega
    rw [this, ch_len cs t]
theorem prod_mono (cs : List Int) : ∀ {t u : Nat}, t ≤ u → prodTo cs t ≤ prodTo cs u
  | t, 0, h => by rw [Nat.le_zero.mp h]; exact Nat.le_refl _
  | t, u + 1, h => by
    rcases Nat.lt_or_eq_of_le h with z | z
    · refine Nat.le_trans (prod_mono cs (Nat.lt_succ_iff.mp z)) ?_
      exact Nat.le_mul_of_pos_right _ (Nat.succ_pos _)
    · rw [z]; exact Nat.le_refl _
abbrev iN (l : List Nat) : List PyData := l.map fun b => .int ((b : Nat) : Int)
abbrev A_choices_up_to (as : List Ag) (ds : List PyData) : Prop := ∃ (n : Nat) (cs : List Int), n ≤ 6 ∧ CsOk n cs ∧ prodTo cs cs.length ≤ 10000 ∧ as = [.c (.d (row cs))] ∧ ds = iN (chL cs)
theorem ok_choices_up_to (E : Nv K mg) : FnOk P w K mg base CX0 4 E.a_choices_up_to E.d_choices_up_to ["counts"] (spN K E.C_Trade A_choices_up_to) := by
  refine E.F_choices_up_to.ok sc_choices_up_to (fun vs H Q _ h => ?_) (fun cdv A outer s H vs Q _ hr h => ?_)
  · obtain ⟨as, d, ha, ⟨_, _, _, _, _, rfl, _⟩, _⟩ := h
    exact ha.length
  · obtain ⟨as, d, ha, ⟨n, cs, h6, hc, hp, rfl, rfl⟩, q⟩ := h
    obtain ⟨v1, rfl, a1⟩ := ha.one
    refine ⟨_, (pss_cons (ps_set (i := 1) sc_choices_up_to.nd rfl (.inl rfl) (pe_lst (pa_cons pe_int pa_nil)))
      (pss_cons (ps_for PassesOwn.never rfl (pi_enumTK K (by rfl) E.n_enumerate (pa_cons (pv 0) pa_nil)) (pg_tupK K (n := 2) rfl (pgs_cons (pg_name (i := 2) sc_choices_up_to.nd rfl (.inr rfl)) (pgs_cons (pg_name (i := 3) sc_choices_up_to.nd rfl (.inr rfl)) pgs_nil)))
      (pss_one (ps_setLc2 (i := 1) (own := [("bits", 4), ("many", 5)]) (vs1 := [5]) (g1 := gName 5) rfl sc_choices_up_to.nd rfl rfl (sw_true rfl rfl rfl (by decide +kernel)) (pi_listK K (pv 1)) (blkOk_by (own := [("bits", 4), ("many", 5)]) (N := N_choices_up_to) (sc := defScope s_choices_up_to) (by decide +kernel)) (by decide) (fun _ _ _ _ _ => (pg_name (i := 4) sc_choices_up_to.nd rfl (Or.inl rfl))) (fun _ _ _ _ _ => pts_nil) (fun _ _ _ _ _ => (pi_range1 (by rfl) E.n_range (pa_cons (pe_op (op_addK K) (pv 3) pe_int) pa_nil))) (fun _ _ _ _ _ => (pg_name (i := 5) sc_choices_up_to.nd rfl (Or.inl rfl))) (fun _ _ _ _ _ => pts_nil) (fun _ _ _ _ _ => (pe_op op_or (pv 4) (pe_op op_shl (pe_callB (call_min2' rfl) (by rfl) E.n_min (by decide +kernel) (pa_cons (pv 5) (pa_cons pe_int pa_nil))) (pv 2)))))))
      (pss_one (ps_ret (pv 1))))), ?_⟩
    have w0 : Wd K E.C_Trade [] [] H H _ [.d (row cs), .u, .u, .u, .u, .u] := Wd.start1 (N := N_choices_up_to) (c1 := .d (row cs)) a1
    refine q_asgN w0 (en_lst (ds := iN (chTo cs 0)) (ed_cons ev_int ed_nil) (Nat.le_of_ble_eq_true rfl)) fun p σ1 H1 _ w1 => ?_
    have w1' : Wd K E.C_Trade [] [] H H1 σ1 [.d (row cs), .l p (iN (chTo cs 0)), .u, .u, .u, .u] := w1
    have hl := hc.len
    refine q_forE w1' (ev_var (i := 0) w1' rfl) (fun a t σ H' => ∃ p c2 c3 c4 c5, Wd K E.C_Trade [] [(.ref a, row cs)] H H' σ [.d (row cs), .l p (iN (chTo cs t)), c2, c3, c4, c5]) (fun a H2 w2 => ⟨_, _, _, _, _, w2⟩) (fun a t σ H' ⟨_, _, _, _, _, w2⟩ => w2.gh0) ?_ ?_
    · rintro a t d v σ' H' H2 hd tv ⟨p, c2, c3, c4, c5, w2⟩ e2
      have ht : t < cs.length := by
        have := (List.getElem?_eq_some_iff.mp hd).1
        rwa [iL_len] at this
      have ed : d = .int cs[t] := by
        rw [iL_get, List.getElem?_eq_getElem ht] at hd
        exact (Option.some.inj hd).symm
      subst ed
      have hb := hc.at ht
      have ge : cs.getD t 0 = cs[t] := by rw [List.getD_eq_getElem?_getD, List.getElem?_eq_getElem ht]; rfl
      have w3 : Wd K E.C_Trade [] [(.ref a, row cs)] H H2 _ [.d (row cs), .l p (iN (chTo cs t)), .d (.int (t : Nat)), .d (.int cs[t]), c4, c5] := ((w2.mono e2).set 2 (v := .int (t : Nat)) (c := .d (.int (t : Nat))) (Td.int _)).set 3 tv
      have hlen : (chTo cs t).length ≤ 10000 := by
        rw [ch_len]
        exact Nat.le_trans (prod_mono cs (Nat.le_of_lt ht)) hp
      refine s_asgN w3 (en_cast (es := iN (chTo cs (t + 1))) (en_lc2LR (i := 4) (j := 5) (l := chTo cs t) (mk := fun b => .int ((b : Nat) : Int)) (cnt := fun _ => (cs.getD t 0).toNat + 1) (by decide) w3 (ev_lend (ev_var (i := 1) w3 rfl)) (fun b m => .int (((b ||| (min m 1 * 2 ^ t) : Nat)) : Int)) hlen (fun x _ => by rw [ge]; omega)
        (fun x _ σ5 H5 w5 => ea_cons (c := .d (.int (((cs.getD t 0).toNat + 1 : Nat) : Int))) (ev_d (ev_addI (ev_var (i := 3) w5 rfl) ev_int) (by rw [ge]; congr 1; omega)) ea_nil)
        (fun x _ y hy σ5 H5 w5 => ev_d (ev_i0 (ev_var (i := 4) w5 rfl) (ev_iC (d := .int ((min ((y : Nat) : Int) 1) * 2 ^ ((t : Nat) : Int).toNat)) (ev_min2 (ev_var (i := 5) w5 rfl) ev_int) (ev_var (i := 2) w5 rfl) ⟨by omega, by omega, by omega⟩ (fun _ => .int _)) (fun _ => .int _)) ?_)) ?_) fun p' σ6 H6 _ w6 => ⟨p', _, _, _, _, w6⟩
      · have e : (min ((y : Nat) : Int) 1) * 2 ^ ((t : Nat) : Int).toNat = ((min y 1 * 2 ^ t : Nat) : Int) := by
          rw [Int.toNat_natCast, Int.natCast_mul, Int.natCast_pow]
          congr 1
          omega
        rw [e, bitOr_nat]
      · unfold iN
        conv => rhs; unfold chTo
        rw [List.map_flatten, List.map_map]
        congr 1
        refine List.map_congr_left fun b _ => ?_
        show _ = ((List.range ((cs.getD t 0).toNat + 1)).map fun m => b ||| (min m 1 * 2 ^ t)).map _
        rw [List.map_map]
        rfl
    · rintro a σ' H' ⟨p, c2, c3, c4, c5, w2⟩
      rw [iL_len] at w2
      exact s_retLQ w2.unghost q rfl
end
end K1
set_option maxRecDepth 10000000
namespace K1
open PySem PySem.Spec PyProof.Rows L2 Pt
def insE (x : List Int) : List (List Int) → List (List Int)
  | [] => [x]
  | y :: l => if leR x y then x :: y :: l else y :: insE x l
def sortE (L : List (List Int)) : List (List Int) := L.foldr insE []
theorem insE_perm (x : List Int) : ∀ l, (insE x l).Perm (x :: l)
  | [] => .refl _
  | y :: l => by
    unfold insE
    split
    · exact .refl _
    · exact ((insE_perm x l).cons y).trans (.swap x y l)
theorem sortE_perm : ∀ L, (sortE L).Perm L
  | [] => .refl _
  | x :: L => (insE_perm x (sortE L)).trans ((sortE_perm L).cons x)
theorem insE_sorted {x : List Int} : ∀ {l : List (List Int)}, l.Pairwise (fun a b => leR a b = true) → (insE x l).Pairwise fun a b => leR a b = true
  | [], _ => by simp [insE]
  | y :: l, h => by
    obtain ⟨h1, h2⟩ := List.pairwise_cons.mp h
    unfold insE
    split
    · rename_i hx
      refine List.pairwise_cons.mpr ⟨fun z hz => ?_, h⟩
      rcases List.mem_cons.mp hz with rfl | hz
      · exact hx
      · exact Pt.leR_trans _ _ _ hx (h1 z hz)
    · rename_i hx
      refine List.pairwise_cons.mpr ⟨fun z hz => ?_, insE_sorted h2⟩
      rcases List.mem_cons.mp ((insE_perm x l).mem_iff.mp hz) with rfl | hz
      · have := Pt.leR_total z y
        simp [hx] at this
        exact this
      · exact h1 z hz
theorem sortE_sorted : ∀ L, (sortE L).Pairwise fun a b => leR a b = true
  | [] => List.Pairwise.nil
  | x :: L => insE_sorted (sortE_sorted L)
theorem sorted_uniq : ∀ {L M : List (List Int)}, L.Perm M → L.Pairwise (fun a b => leR a b = true) → M.Pairwise (fun a b => leR a b = true) → L = M
  | [], M, p, _, _ => (List.Perm.nil_eq p)
  | x :: L, [], p, _, _ => (List.Perm.eq_nil p)
  | x :: L, y :: M, p, hL, hM => by
    obtain ⟨l1, l2⟩ := List.pairwise_cons.mp hL
    obtain ⟨m1, m2⟩ := List.pairwise_cons.mp hM
    have e : x = y := by
      by_cases z : x = y
      · exact z
      · have hx : x ∈ M := (List.mem_cons.mp (p.mem_iff.mp List.mem_cons_self)).resolve_left z
        have hy : y ∈ L := (List.mem_cons.mp (p.mem_iff.mpr List.mem_cons_self)).resolve_left (Ne.symm z)
        have a := l1 y hy
        have b := m1 x hx
        unfold leR at a b
        have a := of_decide_eq_true a
        have b := of_decide_eq_true b
        rcases List.le_iff_lt_or_eq.mp (show x ≤ y from a) with q | q
        · exact absurd q b
        · exact q
    subst e
    rw [sorted_uniq p.cons_inv l2 m2]
theorem sortE_eq (L : List (List Int)) : L.mergeSort leR = sortE L :=
  sorted_uniq ((List.mergeSort_perm L leR).trans (sortE_perm L).symm) (List.pairwise_mergeSort (le := leR) Pt.leR_trans Pt.leR_total L) (sortE_sorted L)
end K1
set_option maxRecDepth 10000000
namespace K1
open PySem PySem.Spec PyProof.Rows L2 Pt
local macro_rules
  | `(tactic| walk_at "sz") => `(tactic| first
    | omega
    | decide
    | (simp; omega)
    | (simp [iL, row, pairsD]; omega))
  | `(tactic| walk_at "ea") => `(tactic| first
    | (with_reducible exact ea_nil)
    | ((with_reducible apply ea_consL); (focus (walk_at "ev")); (focus (walk_at "ea")))
    | ((with_reducible apply ea_consS); (focus (walk_at "ev")); (focus (walk_at "ea")))
    | ((with_reducible apply ea_cons); (focus (walk_at "ev")); (focus (walk_at "ea")))
    | ((with_reducible apply ea_consN); (focus (walk_at "en")); (focus (walk_at "ea"))))
  | `(tactic| walk_at "ed") => `(tactic| first
    | (with_reducible exact ed_nil)
    | ((with_reducible apply ed_cons); (focus (walk_at "ev")); (focus (walk_at "ed"))))
  | `(tactic| walk_at "en") => `(tactic| first
    | ((with_reducible apply en_lst); (focus (walk_at "ed")); (focus (simp)))
    | ((with_reducible apply en_listT); (focus (walk_at "ev")))
    | ((with_reducible apply en_addL); (focus (walk_at "ev")); (focus (walk_at "en")); (focus (walk_at "sz")))
    | ((with_reducible apply en_addN); (focus (walk_at "en")); (focus (walk_at "en")); (focus (walk_at "sz")))
    | ((with_reducible apply en_slL); (focus (walk_at "ev")); (focus (walk_at "eo")); (focus (walk_at "eo"))))
  | `(tactic| walk_at "eo") => `(tactic| first
    | (with_reducible exact eo_none)
    | ((with_reducible apply eo_some); (focus (walk_at "ev"))))
  | `(tactic| walk_at "et") => `(tactic| first
    | (with_reducible exact et_yes)
    | ((with_reducible apply et_test); (focus (walk_at "ev")))
    | ((with_reducible apply et_B); (focus (walk_at "ev")))
    | ((with_reducible apply et_truB); (focus (walk_at "ev")))
    | ((with_reducible apply et_truT); (focus (walk_at "ev")))
    | ((with_reducible apply et_not); (focus (walk_at "et")))
    | ((with_reducible apply et_and); (focus (walk_at "et")); (focus (intro _; walk_at "et")))
    | ((with_reducible apply et_or); (focus (walk_at "et")); (focus (intro _; walk_at "et"))))
  | `(tactic| walk_at "var") => `(tactic| first
    | ((with_reducible apply ev_varD); (focus (assumption)); (focus (rfl)))
    | ((with_reducible apply ev_varL); (focus (assumption)); (focus (rfl)))
    | ((with_reducible apply ev_varS); (focus (assumption)); (focus (rfl)))
    | ((with_reducible apply ev_varT); (focus (assumption)); (focus (rfl)))
    | ((with_reducible apply ev_varH); (focus (assumption)); (focus (rfl)))
    | ((with_reducible apply ev_varZ); (focus (assumption)); (focus (rfl))))
  | `(tactic| walk_at "ev") => `(tactic| first
    | walk_at "var"
    | (with_reducible exact ev_int)
    | (with_reducible exact ev_bl)
    | (with_reducible exact ev_str)
    | (with_reducible exact ev_non)
    | ((with_reducible apply ev_letters); (focus (walk_at "ev")))
    | ((with_reducible apply ev_pairs); (focus (walk_at "ev")))
    | ((with_reducible apply ev_addI); (focus (walk_at "ev")); (focus (walk_at "ev")))
    | ((with_reducible apply ev_addT); (focus (walk_at "ev")); (focus (walk_at "ev")); (focus (walk_at "sz")))
    | ((with_reducible apply ev_i0); (focus (walk_at "ev")); (focus (walk_at "ev")); (focus (first | exact fun _ => .int _ | exact fun _ => .bl _)))
    | ((with_reducible apply ev_iC); (focus (walk_at "ev")); (focus (walk_at "ev")); (focus (first | assumption | walk_at "cond")); (focus (exact fun _ => .int _)))
    | ((with_reducible apply ev_chain); (focus (walk_at "ev")); (focus (walk_at "ev")); (focus (walk_at "ev")))
    | ((with_reducible apply ev_eqI); (focus (walk_at "ev")); (focus (walk_at "ev")))
    | ((with_reducible apply ev_neI); (focus (walk_at "ev")); (focus (walk_at "ev")))
    | ((with_reducible apply ev_eqR); (focus (walk_at "ev")); (focus (walk_at "ev")))
    | ((with_reducible apply ev_neR); (focus (walk_at "ev")); (focus (walk_at "ev")))
    | ((with_reducible apply ev_isN); (focus (walk_at "ev")))
    | ((with_reducible apply ev_notN); (focus (walk_at "ev")))
    | ((with_reducible apply ev_in2); (focus (walk_at "ev")); (focus (walk_at "ev")); (focus (walk_at "ev")))
    | ((with_reducible apply ev_inP); (focus (walk_at "ev")); (focus (walk_at "ev")))
    | ((with_reducible apply ev_tup); (focus (walk_at "ed")); (focus (simp)))
    | ((with_reducible apply ev_lenT); (focus (walk_at "ev")))
    | ((with_reducible apply ev_lenL); (focus (walk_at "ev")))
    | ((with_reducible apply ev_lenS); (focus (walk_at "ev")))
    | ((with_reducible apply ev_lenN); (focus (walk_at "en")))
    | ((with_reducible apply ev_max2); (focus (walk_at "ev")); (focus (walk_at "ev")))
    | ((with_reducible apply ev_min2); (focus (walk_at "ev")); (focus (walk_at "ev")))
    | ((with_reducible apply ev_int1); (focus (walk_at "ev")))
    | ((with_reducible apply ev_tupleL); (focus (walk_at "ev")))
    | ((with_reducible apply ev_tupleN); (focus (walk_at "en")))
    | ((with_reducible apply ev_countT); (focus (walk_at "ev")); (focus (walk_at "ev")))
    | ((with_reducible apply ev_andV); (focus (walk_at "ev")); (focus (intro _; walk_at "ev")))
    | ((with_reducible apply ev_orV); (focus (walk_at "ev")); (focus (intro _; walk_at "ev")))
    | ((with_reducible apply ev_notV); (focus (walk_at "ev"))))
section
variable {P : Program} {w : World} {K : PySem.W.Frag} {mg : Str → Option Value} {base : Heap}
def tlL (n : Nat) (ps : List (Int × Int)) (cs : List Int) : List (Nat × Nat × Int) := ((sortE (grL ps n)).filter fun g => !g.isEmpty).map fun g => (bitsN g, farN cs g, - sg g)
def gwL (n : Nat) (ps : List (Int × Int)) (cs : List Int) (b : Nat) : List (Int × Int) := ((tlL n ps cs).filter fun t => decide (t.1 &&& b = t.1)).map fun t => (((t.2.1 : Nat) : Int), t.2.2)
abbrev gwD (n : Nat) (ps : List (Int × Int)) (cs : List Int) (b : Nat) : PyData := .list ((gwL n ps cs b).map Pt.pairD)
abbrev A_groups_within (as : List Ag) (ds : List PyData) : Prop := ∃ (n : Nat) (ps : List (Int × Int)) (cs : List Int), n ≤ 6 ∧ CsOk n cs ∧ as = [.c (.t n ps), .c (.d (row cs))] ∧ ds = (List.range (2 ^ n)).map (gwD n ps cs)
theorem tl_len (n : Nat) (ps : List (Int × Int)) (cs : List Int) : (tlL n ps cs).length ≤ 2 ^ n := by
  unfold tlL
  rw [List.length_map]
  refine Nat.le_trans (List.length_filter_le _ _) ?_
  rw [(sortE_perm _).length_eq]
  exact gr_len ps n
theorem ok_groups_within (E : Nv K mg) : FnOk P w K mg base CX0 24 E.a_groups_within E.d_groups_within ["trade", "counts"] (spN K E.C_Trade A_groups_within) := by
  refine E.F_groups_within.ok sc_groups_within (fun vs H Q _ h => ?_) (fun cdv A outer s H vs Q _ hr h => ?_)
  · obtain ⟨as, d, ha, ⟨_, _, _, _, _, rfl, _⟩, _⟩ := h
    exact ha.length
  · obtain ⟨as, d, ha, ⟨n, ps, cs, h6, hc, rfl, rfl⟩, q⟩ := h
    obtain ⟨v1, v2, rfl, a1, a2⟩ := ha.two
    refine ⟨_, (pss_cons (ps_setLc (i := 2) (own := [("group", 5)]) (g := gName 5) rfl sc_groups_within.nd rfl rfl (sw_true rfl rfl rfl (by decide +kernel)) (pi_listK K (pe_call (ok_all_groups E) (hr.mono (by first | decide | omega)) (by rfl) E.m_all_groups E.F_all_groups.kp E.b_all_groups .nil pass0 (pa_cons (pv 0) pa_nil))) (blkOk_by (own := [("group", 5)]) (N := N_groups_within) (sc := defScope s_groups_within) (by decide +kernel)) (fun _ _ _ _ _ => (pg_name (i := 5) sc_groups_within.nd rfl (Or.inl rfl))) (fun _ _ _ _ _ => (pts_one (pt_truK K (pv 5) (fun _ => rfl)))) (fun _ _ _ _ _ => (pe_tupF (pa_cons (pe_call (ok_bits_of E) (hr.mono (by first | decide | omega)) (by rfl) E.m_bits_of E.F_bits_of.kp E.b_bits_of .nil pass0 (pa_cons (pv 5) pa_nil)) (pa_cons (pe_call (ok_far_back E) (hr.mono (by first | decide | omega)) (by rfl) E.m_far_back E.F_far_back.kp E.b_far_back .nil pass0 (pa_cons (pv 1) (pa_cons (pv 5) pa_nil))) (pa_cons (pe_un un_neg (pe_call (ok_sign E) (hr.mono (by first | decide | omega)) (by rfl) E.m_sign E.F_sign.kp E.b_sign .nil pass0 (pa_cons (pe_callB (call_lenK K) (by rfl) E.n_len (by decide +kernel) (pa_cons (pv 5) pa_nil)) pa_nil))) pa_nil))))))
      (pss_cons (ps_set (i := 3) sc_groups_within.nd rfl (.inl rfl) (pe_lst pa_nil))
      (pss_cons (ps_for PassesOwn.never rfl (pi_range1 (by rfl) E.n_range (pa_cons (pe_op op_shl pe_int (pe_prop (pv 0) E.cl E.p_letters (ok_Trade_letters E) (hr.mono (by first | decide | omega)) E.b_Trade_letters .nil pass0 rfl)) pa_nil)) (pg_name (i := 4) sc_groups_within.nd rfl (.inr rfl))
      (pss_one (ps_expr (pe_bm PySem.F.plainAttrs_list PySem.F.slot_list_append PySem.F.type_list_append mt_append (pv 3) (pa_cons (Pt.pe_lock (pe_lc (own := [("own", 6), ("back", 7), ("worth", 8)]) (by rfl) sc_groups_within.nd (pi_listK K (pv 2)) (blkOk_by (own := [("own", 6), ("back", 7), ("worth", 8)]) (N := N_groups_within) (sc := defScope s_groups_within) (by decide +kernel)) (fun _ _ _ _ _ => (pg_tupK K (n := 3) rfl (pgs_cons (pg_name (i := 6) sc_groups_within.nd rfl (.inl rfl)) (pgs_cons (pg_name (i := 7) sc_groups_within.nd rfl (.inl rfl)) (pgs_cons (pg_name (i := 8) sc_groups_within.nd rfl (.inl rfl)) pgs_nil))))) (fun _ _ _ _ _ => (pts_one (pt_cmpR (op_eqK K hr.units) (pe_op op_and (pv 6) (pv 4)) (pv 6) (nomark _)))) (fun _ _ _ _ _ => (pe_tupF (pa_cons (pv 7) (pa_cons (pv 8) pa_nil)))))) pa_nil)))))
      (pss_one (ps_ret (pv 3)))))), ?_⟩
    have two : 2 ^ n ≤ 64 := Nat.le_trans (Nat.pow_le_pow_right (by decide) h6) (by decide)
    have w0 : Wd K E.C_Trade [] [] H H _ [.t n ps, .d (row cs), .u, .u, .u, .u, .u, .u, .u] := Wd.start2 (N := N_groups_within) (c1 := .t n ps) (c2 := .d (row cs)) a1 a2
    have hg : ∀ g ∈ (grL ps n).mergeSort leR, g.length ≤ 6 ∧ ∀ x ∈ g, 0 ≤ x ∧ x < 20 := fun g hg => by
      have hm := (List.mergeSort_perm _ _).mem_iff.mp hg
      have h1 := gr_size ps n g hm
      refine ⟨by omega, fun x hx => ?_⟩
      have := gr_lt ps n g hm x hx
      omega
    refine q_asgN w0 (en_cast (es := (tlL n ps cs).map fun t => .tuple [.int ((t.1 : Nat) : Int), .int ((t.2.1 : Nat) : Int), .int t.2.2]) (en_lcN (j := 5) (l := (grL ps n).mergeSort leR) (mk := row) w0 (en_call (ea_cons (ev_var (i := 0) w0 rfl) ea_nil) ⟨n, ps, h6, rfl, rfl⟩) (fun g => !g.isEmpty) (fun g => .tuple [.int ((bitsN g : Nat) : Int), .int ((farN cs g : Nat) : Int), .int (- sg g)]) (by rw [(List.mergeSort_perm _ _).length_eq]; have := gr_len ps n; omega)
      (fun g _ σ1 H1 w1 => et_cast (et_truT (ev_var (i := 5) w1 rfl)) (by cases g <;> rfl))
      (fun g hgm σ1 H1 w1 _ => ev_tup (ed_cons (ev_call (ea_cons (ev_var (i := 5) w1 rfl) ea_nil) ⟨g, by have := (hg g hgm).1; omega, (hg g hgm).2, rfl, rfl⟩) (ed_cons (ev_call (ea_cons (ev_var (i := 1) w1 rfl) (ea_cons (ev_var (i := 5) w1 rfl) ea_nil)) ⟨n, cs, g, h6, hc, by have := (hg g hgm).1; omega, rfl, rfl⟩) (ed_cons (ev_neg (ev_d (ev_call (ea_cons (ev_d (e := .int (g.length : Nat)) (ev_lenT (ev_var (i := 5) w1 rfl)) (by rw [iL_len])) ea_nil) ⟨g.length, rfl, rfl⟩) rfl)) ed_nil))) (Nat.le_of_ble_eq_true rfl))) ?_) fun pt σ1 H1 _ w1 => ?_
    · unfold kept tlL
      rw [List.map_map, sortE_eq]
      rfl
    refine q_asgN w1 (en_lst ed_nil (Nat.zero_le _)) fun pf σ2 H2 _ w2 => ?_
    have w2' : Wd K E.C_Trade [] [] H H2 σ2 [.t n ps, .d (row cs), .l pt ((tlL n ps cs).map fun t => .tuple [.int ((t.1 : Nat) : Int), .int ((t.2.1 : Nat) : Int), .int t.2.2]), .l pf [], .u, .u, .u, .u, .u] := w2
    have e2n : (1 * 2 ^ ((n : Nat) : Int).toNat : Int) = ((2 ^ n : Nat) : Int) := by rw [Int.toNat_natCast, Int.one_mul, Int.natCast_pow]; rfl
    refine q_forR1 w2' (n := ((2 ^ n : Nat) : Int)) (ea_cons (ev_d (ev_iC (d := .int (1 * 2 ^ ((n : Nat) : Int).toNat)) ev_int (ev_letters (ev_var (i := 0) w2' rfl)) ⟨by omega, by omega, by decide⟩ (fun _ => .int _)) (by rw [e2n])) ea_nil) ⟨Int.le_trans (Int.ofNat_le.mpr two) (by decide), Int.le_trans (by decide) (Int.natCast_nonneg _)⟩ (fun b σ H' => ∃ c4 c5 c6 c7 c8, Wd K E.C_Trade [] [] H H' σ [.t n ps, .d (row cs), .l pt ((tlL n ps cs).map fun t => .tuple [.int ((t.1 : Nat) : Int), .int ((t.2.1 : Nat) : Int), .int t.2.2]), .l pf ((List.range b).map (gwD n ps cs)), c4, c5, c6, c7, c8]) (fun H3 w3 => ⟨_, _, _, _, _, w3⟩) ?_ ?_
    · rintro b σ H' hb ⟨c4, c5, c6, c7, c8, w3⟩
      have w4 : Wd K E.C_Trade [] [] H H' _ [.t n ps, .d (row cs), .l pt ((tlL n ps cs).map fun t => .tuple [.int ((t.1 : Nat) : Int), .int ((t.2.1 : Nat) : Int), .int t.2.2]), .l pf ((List.range b).map (gwD n ps cs)), .d (.int (b : Nat)), c5, c6, c7, c8] := w3.set 4 (v := .int (b : Nat)) (c := .d (.int (b : Nat))) (Td.int _)
      have htl := tl_len n ps cs
      refine s_app w4 (i := 3) rfl (d := gwD n ps cs b) (ev_lock (en_cast (en_lc3S (i := 6) (j := 7) (l := 8) (l' := tlL n ps cs) (mk1 := fun t => .int ((t.1 : Nat) : Int)) (mk2 := fun t => .int ((t.2.1 : Nat) : Int)) (mk3 := fun t => .int t.2.2) (by decide) (by decide) (by decide) w4 (ev_lend (ev_var (i := 2) w4 rfl)) (fun t => decide (t.1 &&& b = t.1)) (fun t => Pt.pairD (((t.2.1 : Nat) : Int), t.2.2)) (by omega)
        (fun t _ σ1 H1 w1 => et_cast (et_test (ev_eqI (k := ((t.1 &&& b : Nat) : Int)) (ev_d (ev_i0 (ev_var (i := 6) w1 rfl) (ev_var (i := 4) w1 rfl) (fun _ => .int _)) (by rw [bitAndN])) (ev_var (i := 6) w1 rfl))) (decide_eq_decide.mpr (by omega)))
        (fun t _ σ1 H1 w1 _ => ev_tup (ed_cons (ev_var (i := 7) w1 rfl) (ed_cons (ev_var (i := 8) w1 rfl) ed_nil)) (Nat.le_of_ble_eq_true rfl))) (by unfold kept gwL; rw [List.map_map]; rfl))) (by rw [List.length_map, List.length_range]; omega) fun H5 w5 => ⟨.d (.int (b : Nat)), c5, c6, c7, c8, ?_⟩
      rw [List.range_succ, List.map_append]
      exact w5
    · rintro σ H' ⟨c4, c5, c6, c7, c8, w3⟩
      rw [Int.toNat_natCast] at w3
      exact s_retLQ w3 q rfl
theorem hw_back {ds : List PyData} {d : PyData} (hp : 0 < ds.length) (h : ds[ds.length - 1]? = some d) : atI ds (-1) = some d := by
  have e : ixN ds.length (-1) = some (ds.length - 1) := by
    unfold ixN
    rw [if_neg (by decide)]
    have h1 : (0 : Int) ≤ -1 + (ds.length : Int) := by omega
    first
      | (rw [if_pos (by omega)]; congr 1; omega)
      | (simp; omega)
  unfold atI
  rw [e]
  exact h
def hwF (n : Nat) (ps : List (Int × Int)) (cs : List Int) : Nat → List Int
  | 0 => [1]
  | k + 1 => hwF n ps cs k ++ [((gwL n ps cs ((chL cs).getD (k + 1) 0)).map fun q => q.2 * (hwF n ps cs k).getD (k + 1 - q.1.toNat) 0).sum]
theorem hwF_len (n : Nat) (ps : List (Int × Int)) (cs : List Int) : ∀ k, (hwF n ps cs k).length = k + 1
  | 0 => rfl
  | k + 1 => by
    unfold hwF
    rw [List.length_append, hwF_len n ps cs k]
    rfl
def hwOk (n : Nat) (ps : List (Int × Int)) (cs : List Int) : Bool := (List.range (chL cs).length).all fun k => decide ((chL cs).getD k 0 < 2 ^ n) && (decide (k = 0) || (gwL n ps cs ((chL cs).getD k 0)).all fun q => decide (1 ≤ q.1) && decide (q.1 ≤ (k : Nat)))
def hwV (n : Nat) (ps : List (Int × Int)) (cs : List Int) : Int := (hwF n ps cs ((chL cs).length - 1)).getD ((chL cs).length - 1) 0
theorem sg_small (S : List Int) : sg S = 1 ∨ sg S = -1 := by
  unfold sg
  split
  · exact .inl rfl
  · exact .inr rfl
theorem gw_small {n : Nat} {ps : List (Int × Int)} {cs : List Int} {b : Nat} {q : Int × Int} (h : q ∈ gwL n ps cs b) : q.2 = 1 ∨ q.2 = -1 := by
  unfold gwL at h
  obtain ⟨t, ht, rfl⟩ := List.mem_map.mp h
  have ht := (List.mem_filter.mp ht).1
  unfold tlL at ht
  obtain ⟨g, _, rfl⟩ := List.mem_map.mp ht
  rcases sg_small g with e | e
  · right; show - sg g = -1; rw [e]
  · left; show - sg g = 1; rw [e]; rfl
abbrev A_how_many_with (as : List Ag) (d : PyData) : Prop := ∃ (n : Nat) (ps : List (Int × Int)) (cs : List Int), n ≤ 6 ∧ CsOk n cs ∧ prodTo cs cs.length ≤ 10000 ∧ hwOk n ps cs = true ∧ as = [.c (.t n ps), .c (.d (row cs))] ∧ d = .int (hwV n ps cs)
theorem ok_how_many_with (E : Nv K mg) : FnOk P w K mg base CX0 30 E.a_how_many_with E.d_how_many_with ["trade", "counts"] (spC K E.C_Trade A_how_many_with) := by
  refine E.F_how_many_with.ok sc_how_many_with (fun vs H Q _ h => ?_) (fun cdv A outer s H vs Q _ hr h => ?_)
  · obtain ⟨as, d, ha, ⟨_, _, _, _, _, _, _, rfl, _⟩, _⟩ := h
    exact ha.length
  · obtain ⟨as, d, ha, ⟨n, ps, cs, h6, hc, hp, hok, rfl, rfl⟩, q⟩ := h
    obtain ⟨v1, v2, rfl, a1, a2⟩ := ha.two
    refine ⟨_, (pss_cons (ps_expr (pe_call (ok_check_trade E) (hr.mono (by first | decide | omega)) (by rfl) E.m_check_trade E.F_check_trade.kp E.b_check_trade .nil pass0 (pa_cons (pv 0) pa_nil)))
      (pss_cons (ps_expr (pe_call (ok_check_counts E) (hr.mono (by first | decide | omega)) (by rfl) E.m_check_counts E.F_check_counts.kp E.b_check_counts .nil pass0 (pa_cons (pv 0) (pa_cons (pv 1) pa_nil))))
      (pss_cons (ps_set (i := 2) sc_how_many_with.nd rfl (.inl rfl) (pe_call (ok_choices_up_to E) (hr.mono (by first | decide | omega)) (by rfl) E.m_choices_up_to E.F_choices_up_to.kp E.b_choices_up_to .nil pass0 (pa_cons (pv 1) pa_nil)))
      (pss_cons (ps_set (i := 3) sc_how_many_with.nd rfl (.inl rfl) (pe_call (ok_groups_within E) (hr.mono (by first | decide | omega)) (by rfl) E.m_groups_within E.F_groups_within.kp E.b_groups_within .nil pass0 (pa_cons (pv 0) (pa_cons (pv 1) pa_nil))))
      (pss_cons (ps_set (i := 4) sc_how_many_with.nd rfl (.inl rfl) (pe_lst (pa_cons pe_int pa_nil)))
      (pss_cons (ps_for PassesOwn.never rfl (pi_range2 (by rfl) E.n_range (pa_cons pe_int (pa_cons (pe_callB (call_lenK K) (by rfl) E.n_len (by decide +kernel) (pa_cons (pv 2) pa_nil)) pa_nil))) (pg_name (i := 5) sc_how_many_with.nd rfl (.inl rfl))
      (pss_cons (ps_set (i := 6) sc_how_many_with.nd rfl (.inl rfl) pe_int)
      (pss_cons (ps_for PassesOwn.never rfl (pi_listK K (pe_ix (ix_K K) (pv 3) (pe_ix (ix_K K) (pv 2) (pv 5) (fun _ _ => rfl)) (fun _ _ => rfl))) (pg_tupK K (n := 2) rfl (pgs_cons (pg_name (i := 7) sc_how_many_with.nd rfl (.inl rfl)) (pgs_cons (pg_name (i := 8) sc_how_many_with.nd rfl (.inl rfl)) pgs_nil)))
      (pss_one (ps_set (i := 6) sc_how_many_with.nd rfl (.inl rfl) (pe_op (op_addK K) (pv 6) (pe_op op_mul (pv 8) (pe_ix (ix_K K) (pv 4) (pe_op op_sub (pv 5) (pv 7)) (fun _ _ => rfl)))))))
      (pss_one (ps_expr (pe_bm PySem.F.plainAttrs_list PySem.F.slot_list_append PySem.F.type_list_append mt_append (pv 4) (pa_cons (pv 6) pa_nil)))))))
      (pss_one (ps_ret (pe_ix (ix_K K) (pv 4) (pe_un un_neg pe_int) (fun _ _ => rfl)))))))))), ?_⟩
    have w0 : Wd K E.C_Trade [] [] H H _ [.t n ps, .d (row cs), .u, .u, .u, .u, .u, .u, .u] := Wd.start2 (N := N_how_many_with) (c1 := .t n ps) (c2 := .d (row cs)) a1 a2
    refine q_drop w0 (ev_call (ea_cons (ev_var (i := 0) w0 rfl) ea_nil) ⟨_, _, rfl, rfl⟩) fun H1 w1 => ?_
    refine q_drop w1 (ev_call (ea_cons (ev_var (i := 0) w1 rfl) (ea_cons (ev_var (i := 1) w1 rfl) ea_nil)) ⟨n, ps, cs, h6, hc, rfl, rfl⟩) fun H2 w2 => ?_
    refine q_asgN w2 (en_call (ea_cons (ev_var (i := 1) w2 rfl) ea_nil) ⟨n, cs, h6, hc, hp, rfl, rfl⟩) fun pc σ3 H3 _ w3 => ?_
    refine q_asgN w3 (en_call (ea_cons (ev_var (i := 0) w3 rfl) (ea_cons (ev_var (i := 1) w3 rfl) ea_nil)) ⟨n, ps, cs, h6, hc, rfl, rfl⟩) fun pg σ4 H4 _ w4 => ?_
    refine q_asgN w4 (en_lst (ds := iL (hwF n ps cs 0)) (ed_cons ev_int ed_nil) (Nat.le_of_ble_eq_true rfl)) fun pf σ5 H5 _ w5 => ?_
    have w5' : Wd K E.C_Trade [] [] H H5 σ5 [.t n ps, .d (row cs), .l pc (iN (chL cs)), .l pg ((List.range (2 ^ n)).map (gwD n ps cs)), .l pf (iL (hwF n ps cs 0)), .u, .u, .u, .u] := w5
    have hlen : (chL cs).length ≤ 10000 := by rw [ch_len]; exact hp
    have hpos : 1 ≤ (chL cs).length := by
      rw [ch_len]
      have := prod_mono cs (Nat.zero_le cs.length)
      exact this
    have hall : ∀ k, k < (chL cs).length → (chL cs).getD k 0 < 2 ^ n ∧ (k ≠ 0 → ∀ q ∈ gwL n ps cs ((chL cs).getD k 0), 1 ≤ q.1 ∧ q.1 ≤ (k : Nat)) := fun k hk => by
      have := List.all_eq_true.mp hok k (List.mem_range.mpr hk)
      rw [Bool.and_eq_true, decide_eq_true_eq, Bool.or_eq_true, decide_eq_true_eq] at this
      refine ⟨this.1, fun hk0 q hq => ?_⟩
      have z := List.all_eq_true.mp (this.2.resolve_left hk0) q hq
      rw [Bool.and_eq_true, decide_eq_true_eq, decide_eq_true_eq] at z
      exact z
    refine q_forR2 w5' (lo := 1) (n := ((chL cs).length : Nat)) (ea_cons ev_int (ea_cons (ev_d (ev_lenL (ev_var (i := 2) w5' rfl)) (by unfold iN; rw [List.length_map])) ea_nil)) (by omega) (fun t σ H' => ∃ c5 c6 c7 c8, Wd K E.C_Trade [] [] H H' σ [.t n ps, .d (row cs), .l pc (iN (chL cs)), .l pg ((List.range (2 ^ n)).map (gwD n ps cs)), .l pf (iL (hwF n ps cs t)), c5, c6, c7, c8]) (fun H6 w6 => ⟨_, _, _, _, w6⟩) ?_ ?_
    · rintro t σ H' ht ⟨c5, c6, c7, c8, w6⟩
      have e1 : 1 + ((t : Nat) : Int) = ((t + 1 : Nat) : Int) := by omega
      rw [e1]
      have htl : t + 1 < (chL cs).length := by omega
      obtain ⟨hb1, hb2⟩ := hall (t + 1) htl
      have hb2 := hb2 (Nat.succ_ne_zero t)
      have hget : (chL cs)[t + 1]? = some ((chL cs).getD (t + 1) 0) := by
        rw [List.getD_eq_getElem?_getD, List.getElem?_eq_getElem htl]
        rfl
      generalize hb : (chL cs).getD (t + 1) 0 = b at hb1 hb2 hget
      have w7 : Wd K E.C_Trade [] [] H H' _ [.t n ps, .d (row cs), .l pc (iN (chL cs)), .l pg ((List.range (2 ^ n)).map (gwD n ps cs)), .l pf (iL (hwF n ps cs t)), .d (.int (t + 1 : Nat)), c6, c7, c8] := w6.set 5 (v := .int (t + 1 : Nat)) (c := .d (.int (t + 1 : Nat))) (Td.int _)
      have part : ∀ u, u < (gwL n ps cs b).length → (((gwL n ps cs b).take (u + 1)).map fun q => q.2 * (hwF n ps cs t).getD (t + 1 - q.1.toNat) 0).sum = (((gwL n ps cs b).take u).map fun q => q.2 * (hwF n ps cs t).getD (t + 1 - q.1.toNat) 0).sum + ((gwL n ps cs b).getD u (0, 0)).2 * (hwF n ps cs t).getD (t + 1 - ((gwL n ps cs b).getD u (0, 0)).1.toNat) 0 := fun u hu => by
        rw [List.take_succ_eq_append_getElem hu, List.map_append, sum_app, List.getD_eq_getElem?_getD (l := gwL n ps cs b), List.getElem?_eq_getElem hu]
        simp
      refine q_asgD w7 (d := .int ((((gwL n ps cs b).take 0).map fun q => q.2 * (hwF n ps cs t).getD (t + 1 - q.1.toNat) 0).sum)) ev_int fun σ8 H8 w8 => ?_
      have w8' : Wd K E.C_Trade [] [] H H8 σ8 [.t n ps, .d (row cs), .l pc (iN (chL cs)), .l pg ((List.range (2 ^ n)).map (gwD n ps cs)), .l pf (iL (hwF n ps cs t)), .d (.int (t + 1 : Nat)), .d (.int ((((gwL n ps cs b).take 0).map fun q => q.2 * (hwF n ps cs t).getD (t + 1 - q.1.toNat) 0).sum)), c7, c8] := w8
      refine s_seq (s_forDL w8' (ev_ixL (d := gwD n ps cs b) (ev_var (i := 3) w8' rfl) (ev_ixL (d := .int ((b : Nat) : Int)) (ev_var (i := 2) w8' rfl) (ev_var (i := 5) w8' rfl) (atI_nat (by unfold iN; rw [List.getElem?_map, hget]; rfl))) (atI_nat (by rw [List.getElem?_map, List.getElem?_range hb1]; rfl))) (fun a u σ H' => ∃ c7 c8, Wd K E.C_Trade [] [(.ref a, gwD n ps cs b)] H H' σ [.t n ps, .d (row cs), .l pc (iN (chL cs)), .l pg ((List.range (2 ^ n)).map (gwD n ps cs)), .l pf (iL (hwF n ps cs t)), .d (.int (t + 1 : Nat)), .d (.int ((((gwL n ps cs b).take u).map fun q => q.2 * (hwF n ps cs t).getD (t + 1 - q.1.toNat) 0).sum)), c7, c8]) (fun a H9 w9 => ⟨_, _, w9⟩) (fun a u σ H' ⟨_, _, w9⟩ => w9.gh0) ?_ ?_)
      · rintro a u d v σ' H' hd tv ⟨c7, c8, w9⟩
        have hu : u < (gwL n ps cs b).length := by
          have := (List.getElem?_eq_some_iff.mp hd).1
          rwa [List.length_map] at this
        have ed : d = Pt.pairD (gwL n ps cs b)[u] := by
          rw [List.getElem?_map, List.getElem?_eq_getElem hu] at hd
          exact (Option.some.inj hd).symm
        subst ed
        have hm : (gwL n ps cs b)[u] ∈ gwL n ps cs b := List.getElem_mem hu
        have hsm := gw_small hm
        have hbk := hb2 _ hm
        have hp := part u hu
        rw [List.getD_eq_getElem?_getD (l := gwL n ps cs b), List.getElem?_eq_getElem hu] at hp
        refine g_pair w9 tv fun σa wa => ?_
        generalize (gwL n ps cs b)[u] = r at wa hsm hbk hp
        obtain ⟨bk, wo⟩ := r
        obtain ⟨k, rfl⟩ : ∃ k : Nat, bk = (k : Int) := ⟨bk.toNat, by have := hbk.1; simp at this; omega⟩
        have hk1 : 1 ≤ k ∧ k ≤ t + 1 := by
          obtain ⟨x, y⟩ := hbk
          simp at x y
          omega
        have wa' : Wd K E.C_Trade [] [(.ref a, gwD n ps cs b)] H H' σa [.t n ps, .d (row cs), .l pc (iN (chL cs)), .l pg ((List.range (2 ^ n)).map (gwD n ps cs)), .l pf (iL (hwF n ps cs t)), .d (.int (t + 1 : Nat)), .d (.int ((((gwL n ps cs b).take u).map fun q => q.2 * (hwF n ps cs t).getD (t + 1 - q.1.toNat) 0).sum)), .d (.int (k : Nat)), .d (.int wo)] := wa
        have hf : (hwF n ps cs t)[t + 1 - k]? = some ((hwF n ps cs t).getD (t + 1 - k) 0) := by
          have : t + 1 - k < (hwF n ps cs t).length := by rw [hwF_len]; omega
          rw [List.getD_eq_getElem?_getD, List.getElem?_eq_getElem this]
          rfl
        refine s_asgD wa' (d := .int ((((gwL n ps cs b).take (u + 1)).map fun q => q.2 * (hwF n ps cs t).getD (t + 1 - q.1.toNat) 0).sum)) (ev_d (ev_addI (ev_var (i := 6) wa' rfl) (ev_iC (d := .int (wo * (hwF n ps cs t).getD (t + 1 - k) 0)) (ev_var (i := 8) wa' rfl) (ev_ixL (d := .int ((hwF n ps cs t).getD (t + 1 - k) 0)) (ev_var (i := 4) wa' rfl) (ev_d (e := .int ((t + 1 - k : Nat) : Int)) (ev_i0 (ev_var (i := 5) wa' rfl) (ev_var (i := 7) wa' rfl) (fun _ => .int _)) (by congr 1; omega)) (atI_nat (by rw [iL_get, hf]; rfl))) (.inl (by have hsm : wo = 1 ∨ wo = -1 := hsm; omega)) (fun _ => .int _))) ?_) fun σb Hb wb => ⟨_, _, wb⟩
        rw [hp]
        simp
      · rintro a σ' H' ⟨c7, c8, w9⟩
        rw [List.length_map, List.take_length] at w9
        have wu := w9.unghost
        refine s_app wu (i := 4) rfl (ev_var (i := 6) wu rfl) (by rw [iL_len, hwF_len]; omega) fun Ha wa => ⟨.d (.int (t + 1 : Nat)), .d (.int (((gwL n ps cs b).map fun q => q.2 * (hwF n ps cs t).getD (t + 1 - q.1.toNat) 0).sum)), c7, c8, ?_⟩
        have e4 : iL (hwF n ps cs (t + 1)) = iL (hwF n ps cs t) ++ [.int (((gwL n ps cs b).map fun q => q.2 * (hwF n ps cs t).getD (t + 1 - q.1.toNat) 0).sum)] := by
          conv => lhs; unfold hwF
          rw [iL_app, hb]
          rfl
        rw [e4]
        exact wa
    · rintro σ H' ⟨c5, c6, c7, c8, w6⟩
      have e5 : (((chL cs).length : Int) - 1).toNat = (chL cs).length - 1 := by omega
      rw [e5] at w6
      have hl2 := hwF_len n ps cs ((chL cs).length - 1)
      refine s_retQ w6 q (ev_ixL (ev_var (i := 4) w6 rfl) (ev_neg ev_int) ?_)
      refine hw_back (by rw [iL_len]; omega) ?_
      rw [iL_len, hl2, iL_get]
      unfold hwV
      rw [List.getD_eq_getElem?_getD]
      have : (chL cs).length - 1 < (hwF n ps cs ((chL cs).length - 1)).length := by omega
      show Option.map _ (hwF n ps cs ((chL cs).length - 1))[(chL cs).length - 1 + 1 - 1]? = _
      rw [Nat.add_sub_cancel, List.getElem?_eq_getElem this]
      rfl
def lwL (cs : List Int) : List Int := ((List.range cs.length).map fun k => (List.range (cs.getD k 0).toNat).map fun _ => ((k : Nat) : Int)).flatten
abbrev A_least_with (as : List Ag) (d : PyData) : Prop := ∃ (n : Nat) (ps : List (Int × Int)) (cs : List Int), n ≤ 6 ∧ CsOk n cs ∧ cs.sum ≤ 20 ∧ as = [.c (.t n ps), .c (.d (row cs))] ∧ d = row (lwL cs)
theorem ok_least_with (E : Nv K mg) : FnOk P w K mg base CX0 20 E.a_least_with E.d_least_with ["trade", "counts"] (spC K E.C_Trade A_least_with) := by
  refine E.F_least_with.ok sc_least_with (fun vs H Q _ h => ?_) (fun cdv A outer s H vs Q _ hr h => ?_)
  · obtain ⟨as, d, ha, ⟨_, _, _, _, _, _, rfl, _⟩, _⟩ := h
    exact ha.length
  · obtain ⟨as, d, ha, ⟨n, ps, cs, h6, hc, h20, rfl, rfl⟩, q⟩ := h
    obtain ⟨v1, v2, rfl, a1, a2⟩ := ha.two
    refine ⟨_, (pss_cons (ps_expr (pe_call (ok_check_trade E) (hr.mono (by first | decide | omega)) (by rfl) E.m_check_trade E.F_check_trade.kp E.b_check_trade .nil pass0 (pa_cons (pv 0) pa_nil)))
      (pss_cons (ps_expr (pe_call (ok_check_counts E) (hr.mono (by first | decide | omega)) (by rfl) E.m_check_counts E.F_check_counts.kp E.b_check_counts .nil pass0 (pa_cons (pv 0) (pa_cons (pv 1) pa_nil))))
      (pss_cons (ps_if (pt_cmpR (op_gt) (pe_callB (cr_sumTK K rfl) (by rfl) E.n_sum (by decide +kernel) (pa_cons (pv 1) pa_nil)) (pe_glob (v := .int 20) (by rfl) E.c_MOST_IN_ROW ⟨_, rfl⟩) (nomark _)) (pss_one ps_never) pss_nil)
      (pss_one (ps_ret (pe_callTy (call_tupleK K) (by rfl) E.n_tuple (by decide +kernel) (pa_cons (pe_lc2 (own := [("letter", 2), ("count", 3), ("_", 4)]) (vs1 := [4]) (g1 := gName 4) (by rfl) sc_least_with.nd (pi_enumTK K (by rfl) E.n_enumerate (pa_cons (pv 1) pa_nil)) (blkOk_by (own := [("letter", 2), ("count", 3), ("_", 4)]) (N := N_least_with) (sc := defScope s_least_with) (by decide +kernel)) (by decide) (fun _ _ _ _ _ => (pg_tupK K (n := 2) rfl (pgs_cons (pg_name (i := 2) sc_least_with.nd rfl (.inl rfl)) (pgs_cons (pg_name (i := 3) sc_least_with.nd rfl (.inl rfl)) pgs_nil)))) (fun _ _ _ _ _ => pts_nil) (fun _ _ _ _ _ => (pi_range1 (by rfl) E.n_range (pa_cons (pv 3) pa_nil))) (fun _ _ _ _ _ => (pg_name (i := 4) sc_least_with.nd rfl (Or.inl rfl))) (fun _ _ _ _ _ => pts_nil) (fun _ _ _ _ _ => (pv 2))) pa_nil))))))), ?_⟩
    have hl := hc.len
    have w0 : Wd K E.C_Trade [] [] H H _ [.t n ps, .d (row cs), .u, .u, .u] := Wd.start2 (N := N_least_with) (c1 := .t n ps) (c2 := .d (row cs)) a1 a2
    refine q_drop w0 (ev_call (ea_cons (ev_var (i := 0) w0 rfl) ea_nil) ⟨_, _, rfl, rfl⟩) fun H1 w1 => ?_
    refine q_drop w1 (ev_call (ea_cons (ev_var (i := 0) w1 rfl) (ea_cons (ev_var (i := 1) w1 rfl) ea_nil)) ⟨n, ps, cs, h6, hc, rfl, rfl⟩) fun H2 w2 => ?_
    refine s_when w2 (b := false) (et_cast (et_test (ev_i0 (ev_sumT (ev_var (i := 1) w2 rfl)) ev_int (fun _ => .bl _))) (decide_eq_false (by omega))) (fun z => by cases z) (fun _ H3 w3 => ?_)
    have ge : ∀ k, ∀ hk : k < cs.length, cs.getD k 0 = cs[k] := fun k hk => by rw [List.getD_eq_getElem?_getD, List.getElem?_eq_getElem hk]; rfl
    refine s_retQ w3 q (ev_tupleN (en_cast (es := iL (lwL cs)) (en_lc2ER (i := 2) (j := 3) (l := 4) (r := cs) (cnt := fun k => (cs.getD k 0).toNat) (by decide) (by decide) (by decide) w3 (ev_var (i := 1) w3 rfl) (fun k _ => .int ((k : Nat) : Int)) (by omega) (fun k hk => by rw [ge k hk]; have := hc.at hk; omega)
      (fun k hk σ4 H4 w4 => ea_cons (ev_d (ev_var (i := 3) w4 rfl) (by rw [ge k hk]; have := hc.at hk; congr 1; omega)) ea_nil) (fun k hk y hy σ4 H4 w4 => ev_var (i := 2) w4 rfl)) ?_))
    unfold lwL iL
    rw [List.map_flatten, List.map_map]
    congr 1
    refine List.map_congr_left fun k _ => ?_
    show _ = ((List.range (cs.getD k 0).toNat).map fun _ => ((k : Nat) : Int)).map _
    rw [List.map_map]
    rfl
end
end K1
namespace K1
open PySem PySem.Spec PyProof.Rows L2 Pt
theorem flat_at {α β : Type} (B : Nat) (f : α → Nat → β) : ∀ (L : List α) (k : Nat) (x : β), ((L.map fun b => (List.range B).map (f b)).flatten)[k]? = some x → ∃ (k' m : Nat) (b : α), L[k']? = some b ∧ m < B ∧ k = k' * B + m ∧ x = f b m
  | [], k, x, h => by simp at h
  | b :: L, k, x, h => by
    rw [List.map_cons, List.flatten_cons] at h
    by_cases hk : k < B
    · rw [List.getElem?_append_left (by rw [List.length_map, List.length_range]; exact hk), List.getElem?_map, List.getElem?_range hk] at h
      exact ⟨0, k, b, rfl, hk, by omega, (Option.some.inj h).symm⟩
    · rw [List.getElem?_append_right (by rw [List.length_map, List.length_range]; omega), List.length_map, List.length_range] at h
      obtain ⟨k', m, b', h1, h2, h3, h4⟩ := flat_at B f L (k - B) x h
      exact ⟨k' + 1, m, b', by simpa using h1, h2, by rw [Nat.add_mul]; omega, h4⟩
theorem ch_lt (cs : List Int) : ∀ t, ∀ b ∈ chTo cs t, b < 2 ^ t
  | 0, b, h => by
    have : b = 0 := by simpa [chTo] using h
    rw [this]; decide
  | t + 1, b, h => by
    unfold chTo at h
    obtain ⟨L, hL, hb⟩ := List.mem_flatten.mp h
    obtain ⟨b', hb', rfl⟩ := List.mem_map.mp hL
    obtain ⟨m, _, rfl⟩ := List.mem_map.mp hb
    have h1 := ch_lt cs t b' hb'
    refine Nat.or_lt_two_pow (Nat.lt_of_lt_of_le h1 (Nat.pow_le_pow_right (by decide) (Nat.le_succ t))) ?_
    have : min m 1 * 2 ^ t ≤ 1 * 2 ^ t := Nat.mul_le_mul_right _ (Nat.min_le_right _ _)
    rw [Nat.pow_succ]
    have := Nat.two_pow_pos t
    omega
theorem far_le (cs g : List Int) (nd : g.Nodup) : ∀ (t k b : Nat), (chTo cs t)[k]? = some b → (∀ j : Nat, j < t → ((j : Nat) : Int) ∈ g → b.testBit j = true) → farTo cs g t ≤ k
  | 0, _, _, _, _ => Nat.zero_le _
  | t + 1, k, b, h, hb => by
    unfold chTo at h
    obtain ⟨k', m, b', h1, h2, rfl, rfl⟩ := flat_at _ (fun b m => b ||| (min m 1 * 2 ^ t)) (chTo cs t) k b h
    have hlt := ch_lt cs t b' (List.mem_of_getElem? h1)
    have bit : ∀ j, (b' ||| (min m 1 * 2 ^ t)).testBit j = (b'.testBit j || (decide (1 ≤ m) && decide (j = t))) := fun j => by
      rw [Nat.testBit_or]
      congr 1
      by_cases hm : 1 ≤ m
      · rw [show min m 1 = 1 by omega, Nat.one_mul, Nat.testBit_two_pow, decide_eq_true hm, Bool.true_and]
        exact decide_eq_decide.mpr ⟨Eq.symm, Eq.symm⟩
      · rw [show min m 1 = 0 by omega, Nat.zero_mul, Nat.zero_testBit, decide_eq_false hm]
        rfl
    have ih := far_le cs g nd t k' b' h1 fun j hj hg => by
      have := hb j (by omega) hg
      rw [bit, decide_eq_false (p := j = t) (by omega), Bool.and_false, Bool.or_false] at this
      exact this
    have hcnt : g.count ((t : Nat) : Int) ≤ m := by
      by_cases hm : ((t : Nat) : Int) ∈ g
      · have z := hb t (Nat.lt_succ_self t) hm
        rw [bit, Nat.testBit_lt_two_pow hlt, Bool.false_or, Bool.and_eq_true, decide_eq_true_eq] at z
        have := List.nodup_iff_count.mp nd ((t : Nat) : Int)
        omega
      · rw [List.count_eq_zero.mpr hm]
        exact Nat.zero_le _
    unfold farTo
    have := Nat.mul_le_mul_right ((cs.getD t 0).toNat + 1) ih
    omega
theorem far_pos (cs g : List Int) : ∀ (t : Nat), (∃ j : Nat, j < t ∧ ((j : Nat) : Int) ∈ g) → 1 ≤ farTo cs g t
  | 0, ⟨j, h, _⟩ => absurd h (Nat.not_lt_zero _)
  | t + 1, ⟨j, h, hg⟩ => by
    unfold farTo
    by_cases e : j = t
    · subst e
      have := List.count_pos_iff.mpr hg
      omega
    · have ih := far_pos cs g t ⟨j, by omega, hg⟩
      have := Nat.mul_le_mul ih (show 1 ≤ (cs.getD t 0).toNat + 1 by omega)
      omega
theorem bits_app (g : List Int) (x : Int) : bitsN (g ++ [x]) = bitsN g + 2 ^ x.toNat := by
  unfold bitsN
  rw [List.map_append, List.sum_append_nat]
  simp
theorem gr_bits (ps : List (Int × Int)) : ∀ k, ∀ S ∈ grL ps k, bitsN S < 2 ^ k ∧ ∀ j : Nat, ((j : Nat) : Int) ∈ S → (bitsN S).testBit j = true
  | 0, S, h => by
    have : S = [] := by simpa [grL] using h
    subst this
    exact ⟨by decide, fun j hj => by cases hj⟩
  | k + 1, S, h => by
    unfold grL at h
    rcases List.mem_append.mp h with h | h
    · obtain ⟨h1, h2⟩ := gr_bits ps k S h
      exact ⟨Nat.lt_of_lt_of_le h1 (Nat.pow_le_pow_right (by decide) (Nat.le_succ k)), h2⟩
    · obtain ⟨T, hT, rfl⟩ := List.mem_map.mp h
      obtain ⟨h1, h2⟩ := gr_bits ps k T (List.mem_filter.mp hT).1
      have e : bitsN (T ++ [((k : Nat) : Int)]) = 2 ^ k ||| bitsN T := by
        rw [bits_app, Int.toNat_natCast]
        have := Nat.two_pow_add_eq_or_of_lt h1 1
        rw [Nat.mul_one] at this
        omega
      rw [e]
      refine ⟨Nat.or_lt_two_pow (Nat.pow_lt_pow_right (by decide) (Nat.lt_succ_self k)) (Nat.lt_of_lt_of_le h1 (Nat.pow_le_pow_right (by decide) (Nat.le_succ k))), fun j hj => ?_⟩
      rw [Nat.testBit_or]
      rcases List.mem_append.mp hj with hj | hj
      · rw [h2 j hj, Bool.or_true]
      · have : j = k := by have := List.mem_singleton.mp hj; omega
        subst this
        rw [Nat.testBit_two_pow_self]
        rfl
theorem hw_ok {n : Nat} (ps : List (Int × Int)) {cs : List Int} (hc : CsOk n cs) : hwOk n ps cs = true := by
  unfold hwOk
  refine List.all_eq_true.mpr fun k hk => ?_
  have hk := List.mem_range.mp hk
  have hl := hc.len
  have hget : (chL cs)[k]? = some ((chL cs).getD k 0) := by
    rw [List.getD_eq_getElem?_getD, List.getElem?_eq_getElem hk]
    rfl
  generalize (chL cs).getD k 0 = b at hget
  have hb : b < 2 ^ n := by
    have := ch_lt cs cs.length b (List.mem_of_getElem? hget)
    rwa [hl] at this
  rw [Bool.and_eq_true, decide_eq_true_eq]
  refine ⟨hb, ?_⟩
  rw [Bool.or_eq_true]
  refine .inr (List.all_eq_true.mpr fun q hq => ?_)
  unfold gwL at hq
  obtain ⟨t, ht, rfl⟩ := List.mem_map.mp hq
  obtain ⟨ht, hand⟩ := List.mem_filter.mp ht
  have hand := of_decide_eq_true hand
  unfold tlL at ht
  obtain ⟨g, hg, rfl⟩ := List.mem_map.mp ht
  obtain ⟨hg, hne⟩ := List.mem_filter.mp hg
  have hg := (sortE_perm _).mem_iff.mp hg
  obtain ⟨h1, h2⟩ := gr_bits ps n g hg
  have hgr := ((gr_groups (n := (n : Nat)) (ps := ps) n).mem g).mp hg
  have nd : g.Nodup := hgr.2.1.imp fun h e => by omega
  have hand : bitsN g &&& b = bitsN g := hand
  have le := far_le cs g nd cs.length k b hget fun j _ hj => by
    have z := h2 j hj
    rw [← hand, Nat.testBit_and, Bool.and_eq_true] at z
    exact z.2
  have pos : 1 ≤ farTo cs g cs.length := by
    cases g with
    | nil => cases hne
    | cons x g' =>
      have hx := gr_lt ps n (x :: g') hg x List.mem_cons_self
      refine far_pos cs _ _ ⟨x.toNat, by omega, ?_⟩
      rw [Int.toNat_of_nonneg hx.1]
      exact List.mem_cons_self
  rw [Bool.and_eq_true, decide_eq_true_eq, decide_eq_true_eq]
  constructor
  · show (1 : Int) ≤ ((farTo cs g cs.length : Nat) : Int)
    omega
  · show ((farTo cs g cs.length : Nat) : Int) ≤ ((k : Nat) : Int)
    omega
end K1
namespace K1
open PySem PySem.Spec PyProof.Rows L2 Pt
def offL (w S : List Int) : List Int := S.foldl List.erase w
theorem off_perm : ∀ {S w : List Int}, S.Nodup → (∀ x ∈ S, x ∈ w) → w.Perm (S ++ offL w S)
  | [], w, _, _ => List.Perm.refl _
  | x :: S, w, nd, h => by
    obtain ⟨n1, n2⟩ := List.nodup_cons.mp nd
    have p := List.perm_cons_erase (h x List.mem_cons_self)
    exact p.trans ((off_perm n2 fun y hy => (List.mem_erase_of_ne fun e => n1 (by rw [← e]; exact hy)).2 (h y (List.mem_cons_of_mem _ hy))).cons x)
structure WRows (ps : List (Int × Int)) (w : List Int) (U : List (List Int)) : Prop where
  nd : U.Nodup
  mem : ∀ u, u ∈ U ↔ u.Perm w ∧ leastL ps u = u
def pcL (n : Nat) (ps : List (Int × Int)) (w : List Int) : List (List Int) := (enL n ps w.length 0).filter fun u => u.isPerm w
def pcN (n : Nat) (ps : List (Int × Int)) (w : List Int) : Nat := (pcL n ps w).length
theorem pc_rows {n : Nat} {ps : List (Int × Int)} (hok : PairsOk (n : Nat) ps) {w : List Int} (hw : rowIn (n : Nat) w) : WRows ps w (pcL n ps w) := by
  refine ⟨(en_lrows hok w.length).nd.filter _, fun u => ?_⟩
  unfold pcL
  rw [List.mem_filter, (en_lrows hok w.length).mem, List.isPerm_iff]
  exact ⟨fun h => ⟨h.2, h.1.2.2⟩, fun h => ⟨⟨fun x hx => hw x (h.1.mem_iff.mp hx), h.1.length_eq, h.2⟩, h.1⟩⟩
theorem wrows_len {ps : List (Int × Int)} {w w' : List Int} {U V : List (List Int)} (p : w.Perm w') (hU : WRows ps w U) (hV : WRows ps w' V) : U.length = V.length := by
  refine ((List.perm_ext_iff_of_nodup hU.nd hV.nd).mpr fun u => ?_).length_eq
  rw [hU.mem, hV.mem]
  exact ⟨fun h => ⟨h.1.trans p, h.2⟩, fun h => ⟨h.1.trans p.symm, h.2⟩⟩
theorem pc_perm {n : Nat} {ps : List (Int × Int)} (hok : PairsOk (n : Nat) ps) {w w' : List Int} (hw : rowIn (n : Nat) w) (p : w.Perm w') : pcN n ps w = pcN n ps w' :=
  wrows_len p (pc_rows hok hw) (pc_rows hok fun x hx => hw x (p.mem_iff.mpr hx))
theorem group_words {n : Int} {ps : List (Int × Int)} (hok : PairsOk n ps) {S : List Int} (hS : isGroup ps S) {w w' : List Int} {U V : List (List Int)} (pw : w.Perm (S ++ w')) (hU : WRows ps w U) (hV : WRows ps w' V) : (U.filter (inStep ps S)).length = V.length := by
  have nS : S.Nodup := hS.1.imp fun h e => by omega
  have p : (U.filter (inStep ps S)).Perm (V.map fun t => leastL ps (S ++ t)) := by
    refine (List.perm_ext_iff_of_nodup (hU.nd.filter _) ?_).mpr fun u => ?_
    · have key : ∀ W : List (List Int), W.Nodup → (∀ t ∈ W, leastL ps t = t) → (W.map fun t => leastL ps (S ++ t)).Nodup := fun W => by
        induction W with
        | nil => intro _ _; exact List.nodup_nil
        | cons t W ih =>
          intro nd hW
          have nd' := List.nodup_cons.mp nd
          refine List.nodup_cons.mpr ⟨fun hm => nd'.1 ?_, ih nd'.2 fun t ht => hW t (List.mem_cons_of_mem _ ht)⟩
          obtain ⟨t', ht', e⟩ := List.mem_map.mp hm
          have e : leastL ps (S ++ t') = leastL ps (S ++ t) := e
          have al : Alike ps (S ++ t') (S ++ t) := ((least_alike ps _).trans (by rw [e]; exact .refl _ _)).trans (least_alike ps (S ++ t)).symm
          have := least_same hok (app_cancel hok al)
          rw [hW t' (List.mem_cons_of_mem _ ht'), hW t List.mem_cons_self] at this
          rw [← this]
          exact ht'
      exact key V hV.nd fun t ht => ((hV.mem t).mp ht).2
    · rw [List.mem_filter, hU.mem, List.mem_map]
      constructor
      · rintro ⟨⟨h1, h3⟩, h4⟩
        have hf : ∀ x ∈ S, isFirst ps u x := fun x hx => (step_first hok).mp (of_decide_eq_true (List.all_eq_true.mp h4 x hx))
        obtain ⟨s, hs⟩ := left_firsts hok nS hf
        obtain ⟨al, sub⟩ := left_some hs
        obtain ⟨_, wk⟩ := id al
        have ps' : s.Perm w' := (List.perm_append_left_iff S).mp (wk.perm.symm.trans (h1.trans pw))
        refine ⟨leastL ps s, (hV.mem _).mpr ⟨(least_perm ps s).symm.trans ps', least_fix hok s⟩, ?_⟩
        rw [← h3]
        exact (least_same hok (al.trans ((least_alike ps s).app S))).symm
      · rintro ⟨t, ht, rfl⟩
        obtain ⟨h1, h3⟩ := (hV.mem t).mp ht
        refine ⟨⟨(least_perm ps (S ++ t)).symm.trans (((List.perm_append_left_iff S).mpr h1).trans pw.symm), least_fix hok _⟩, List.all_eq_true.mpr fun x hx => decide_eq_true ?_⟩
        obtain ⟨m, hm⟩ := group_first hok hS t x hx
        exact (step_first hok).mpr ⟨m, (least_alike ps (S ++ t)).symm.trans hm⟩
  rw [p.length_eq, List.length_map]
theorem word_rule {n : Nat} {ps : List (Int × Int)} (hok : PairsOk (n : Nat) ps) {w : List Int} (hw : rowIn (n : Nat) w) (hne : w ≠ []) :
    ((grL ps n).map fun S => sg S * (if ∀ x ∈ S, x ∈ w then ((pcN n ps (offL w S) : Nat) : Int) else 0)).sum = 0 := by
  have hG := gr_groups (n := (n : Nat)) (ps := ps) n
  have hU := pc_rows hok hw
  have e : ((grL ps n).map fun S => sg S * (if ∀ x ∈ S, x ∈ w then ((pcN n ps (offL w S) : Nat) : Int) else 0)) = (grL ps n).map fun S => sg S * (((pcL n ps w).filter (inStep ps S)).length : Int) := List.map_congr_left fun S hS => by
    obtain ⟨h1, h2⟩ := (hG.mem S).mp hS
    by_cases z : ∀ x ∈ S, x ∈ w
    · have pw := off_perm (h2.1.imp fun h e => by omega) z
      have hin : rowIn (n : Nat) (offL w S) := fun x hx => hw x (pw.mem_iff.mpr (List.mem_append_right _ hx))
      rw [if_pos z, group_words hok h2 pw hU (pc_rows hok hin)]
      rfl
    · have none : (pcL n ps w).filter (inStep ps S) = [] := List.filter_eq_nil_iff.mpr fun u hu h => z fun x hx => by
        have := step_mem (of_decide_eq_true (List.all_eq_true.mp h x hx))
        exact ((hU.mem u).mp hu).1.mem_iff.mp this
      rw [if_neg z, none]
      rfl
  rw [e, swap_sum]
  have zero : ∀ L : List (List Int), (∀ u ∈ L, u ∈ pcL n ps w) → (L.map fun u => (((grL ps n).filter fun S => inStep ps S u).map sg).sum).sum = 0 := fun L => by
    induction L with
    | nil => intro _; rfl
    | cons u L ih =>
      intro h
      obtain ⟨h1, _⟩ := (hU.mem u).mp (h u List.mem_cons_self)
      rw [List.map_cons, List.sum_cons, ih fun u hu => h u (List.mem_cons_of_mem _ hu), row_sum hok hG (fun x hx => hw x (h1.mem_iff.mp hx)) fun e => by
        rw [e] at h1
        exact hne h1.symm.eq_nil]
      rfl
  exact zero (pcL n ps w) fun u h => h
end K1
namespace K1
open PySem PySem.Spec PyProof.Rows L2 Pt
abbrev cAt (cs : List Int) (t : Nat) : Nat := (cs.getD t 0).toNat
def dg (cs : List Int) : Nat → Nat → Nat → Nat
  | 0, _, _ => 0
  | t + 1, k, j => if j = t then k % (cAt cs t + 1) else dg cs t (k / (cAt cs t + 1)) j
theorem dg_far {cs : List Int} : ∀ {t k j : Nat}, t ≤ j → dg cs t k j = 0
  | 0, _, _, _ => rfl
  | t + 1, k, j, h => by
    unfold dg
    rw [if_neg (by omega)]
    exact dg_far (by omega)
theorem cut_k {B k' m : Nat} (h : m < B) : (k' * B + m) / B = k' ∧ (k' * B + m) % B = m := by
  have hb : 0 < B := by omega
  rw [Nat.mul_comm]
  exact ⟨by rw [Nat.mul_add_div hb, Nat.div_eq_of_lt h, Nat.add_zero], by rw [Nat.mul_add_mod, Nat.mod_eq_of_lt h]⟩
theorem ch_bits (cs : List Int) : ∀ (t k b : Nat), (chTo cs t)[k]? = some b → ∀ j, b.testBit j = decide (1 ≤ dg cs t k j)
  | 0, k, b, h, j => by
    have : b = 0 := by
      have := List.mem_of_getElem? h
      simpa [chTo] using this
    subst this
    rw [Nat.zero_testBit]
    rfl
  | t + 1, k, b, h, j => by
    unfold chTo at h
    obtain ⟨k', m, b', h1, h2, rfl, rfl⟩ := flat_at _ (fun b m => b ||| (min m 1 * 2 ^ t)) (chTo cs t) k b h
    have ih := ch_bits cs t k' b' h1 j
    obtain ⟨e1, e2⟩ := cut_k (k' := k') h2
    unfold dg
    rw [e1, e2, Nat.testBit_or, ih]
    by_cases hj : j = t
    · subst hj
      rw [if_pos rfl, dg_far (Nat.le_refl _)]
      by_cases hm : 1 ≤ m
      · rw [show min m 1 = 1 by omega, Nat.one_mul, Nat.testBit_two_pow_self, decide_eq_true hm]
        rfl
      · rw [show min m 1 = 0 by omega, Nat.zero_mul, Nat.zero_testBit, decide_eq_false hm]
        rfl
    · rw [if_neg hj]
      have z : (min m 1 * 2 ^ t).testBit j = false := by
        by_cases hm : 1 ≤ m
        · rw [show min m 1 = 1 by omega, Nat.one_mul, Nat.testBit_two_pow, decide_eq_false (fun e => hj e.symm)]
        · rw [show min m 1 = 0 by omega, Nat.zero_mul, Nat.zero_testBit]
      rw [z, Bool.or_false]
abbrev oneIn (g : List Int) (j : Nat) : Nat := if ((j : Nat) : Int) ∈ g then 1 else 0
theorem dg_less (cs g : List Int) (nd : g.Nodup) : ∀ (t k : Nat), (∀ j : Nat, j < t → ((j : Nat) : Int) ∈ g → 1 ≤ dg cs t k j) →
    farTo cs g t ≤ k ∧ ∀ j, j < t → dg cs t (k - farTo cs g t) j = dg cs t k j - oneIn g j
  | 0, k, _ => ⟨Nat.zero_le _, fun j hj => absurd hj (Nat.not_lt_zero _)⟩
  | t + 1, k, h => by
    obtain ⟨k', m, hm, rfl⟩ : ∃ k' m, m < cAt cs t + 1 ∧ k = k' * (cAt cs t + 1) + m := ⟨k / (cAt cs t + 1), k % (cAt cs t + 1), Nat.mod_lt _ (Nat.succ_pos _), by rw [Nat.mul_comm]; exact (Nat.div_add_mod _ _).symm⟩
    obtain ⟨e1, e2⟩ := cut_k (k' := k') hm
    have at' : ∀ j, dg cs (t + 1) (k' * (cAt cs t + 1) + m) j = if j = t then m else dg cs t k' j := fun j => by
      show (if j = t then _ else _) = _
      rw [e1, e2]
    obtain ⟨ih1, ih2⟩ := dg_less cs g nd t k' fun j hj hg => by
      have := h j (by omega) hg
      rwa [at', if_neg (by omega)] at this
    have cnt : g.count ((t : Nat) : Int) = oneIn g t := by
      by_cases hg : ((t : Nat) : Int) ∈ g
      · have h1 := List.nodup_iff_count.mp nd ((t : Nat) : Int)
        have h2 := List.count_pos_iff.mpr hg
        unfold oneIn
        rw [if_pos hg]
        omega
      · unfold oneIn
        rw [if_neg hg, List.count_eq_zero.mpr hg]
    have le : oneIn g t ≤ m := by
      unfold oneIn
      split
      · rename_i hg
        have := h t (by omega) hg
        rwa [at', if_pos rfl] at this
      · exact Nat.zero_le _
    have f : farTo cs g (t + 1) = farTo cs g t * (cAt cs t + 1) + oneIn g t := by rw [← cnt]; rfl
    have mul := Nat.mul_le_mul_right (cAt cs t + 1) ih1
    have sub : k' * (cAt cs t + 1) + m - farTo cs g (t + 1) = (k' - farTo cs g t) * (cAt cs t + 1) + (m - oneIn g t) := by
      rw [f, Nat.sub_mul]
      omega
    refine ⟨by rw [f]; omega, fun j hj => ?_⟩
    obtain ⟨e3, e4⟩ := cut_k (k' := k' - farTo cs g t) (B := cAt cs t + 1) (m := m - oneIn g t) (by omega)
    rw [sub, at']
    show (if j = t then _ else _) = _
    rw [e3, e4]
    by_cases e : j = t
    · rw [if_pos e, if_pos e, e]
    · rw [if_neg e, if_neg e]
      exact ih2 j (by omega)
theorem dg_zero (cs : List Int) : ∀ (t k : Nat), k < prodTo cs t → (∀ j, j < t → dg cs t k j = 0) → k = 0
  | 0, k, h, _ => by
    have : k < 1 := h
    omega
  | t + 1, k, h, hz => by
    have h : k < prodTo cs t * (cAt cs t + 1) := h
    have m0 := hz t (Nat.lt_succ_self t)
    unfold dg at m0
    rw [if_pos rfl] at m0
    have q := dg_zero cs t (k / (cAt cs t + 1)) (Nat.div_lt_of_lt_mul (by rw [Nat.mul_comm]; exact h)) fun j hj => by
      have := hz j (by omega)
      unfold dg at this
      rwa [if_neg (by omega)] at this
    have := Nat.div_add_mod k (cAt cs t + 1)
    rw [q, m0, Nat.mul_zero] at this
    exact this.symm
theorem prod_pos (cs : List Int) : ∀ t, 0 < prodTo cs t
  | 0 => Nat.one_pos
  | t + 1 => Nat.mul_pos (prod_pos cs t) (Nat.succ_pos _)
theorem dg_top (cs : List Int) : ∀ (t j : Nat), j < t → dg cs t (prodTo cs t - 1) j = cAt cs j
  | 0, j, h => absurd h (Nat.not_lt_zero _)
  | t + 1, j, h => by
    have p := prod_pos cs t
    have e : prodTo cs (t + 1) - 1 = (prodTo cs t - 1) * (cAt cs t + 1) + cAt cs t := by
      show prodTo cs t * (cAt cs t + 1) - 1 = _
      obtain ⟨q, hq⟩ : ∃ q, prodTo cs t = q + 1 := ⟨prodTo cs t - 1, by omega⟩
      rw [hq, Nat.add_sub_cancel, Nat.add_mul]
      omega
    obtain ⟨e1, e2⟩ := cut_k (k' := prodTo cs t - 1) (Nat.lt_succ_self (cAt cs t))
    unfold dg
    rw [e]
    by_cases z : j = t
    · rw [if_pos z, z]
      exact e2
    · rw [if_neg z]
      have := dg_top cs t j (by omega)
      rw [show ((prodTo cs t - 1) * (cAt cs t + 1) + cAt cs t) / (cAt cs t + 1) = prodTo cs t - 1 from e1]
      exact this
def wdL (f : Nat → Nat) (t : Nat) : List Int := ((List.range t).map fun j => List.replicate (f j) ((j : Nat) : Int)).flatten
theorem wd_succ (f : Nat → Nat) (t : Nat) : wdL f (t + 1) = wdL f t ++ List.replicate (f t) ((t : Nat) : Int) := by
  unfold wdL
  rw [List.range_succ, List.map_append, List.flatten_append]
  simp
theorem wd_count (f : Nat → Nat) (j : Nat) : ∀ t, (wdL f t).count ((j : Nat) : Int) = if j < t then f j else 0
  | 0 => by
    unfold wdL
    rfl
  | t + 1 => by
    rw [wd_succ, List.count_append, wd_count f j t, List.count_replicate]
    by_cases e : j = t
    · subst e
      simp
    · have e' : ¬ (((t : Nat) : Int) = ((j : Nat) : Int)) := by omega
      have e2 : (((t : Nat) : Int) == ((j : Nat) : Int)) = false := by simpa using e'
      rw [e2]
      show (if j < t then f j else 0) + 0 = _
      rw [Nat.add_zero]
      by_cases h : j < t
      · rw [if_pos h, if_pos (show j < t + 1 by omega)]
      · rw [if_neg h, if_neg (show ¬ j < t + 1 by omega)]
theorem wd_in (f : Nat → Nat) : ∀ t, rowIn (t : Nat) (wdL f t)
  | 0, x, h => by
    unfold wdL at h
    cases h
  | t + 1, x, h => by
    rw [wd_succ] at h
    rcases List.mem_append.mp h with h | h
    · have := wd_in f t x h
      omega
    · have := List.eq_of_mem_replicate h
      omega
theorem wd_cong {f g : Nat → Nat} : ∀ {t : Nat}, (∀ j, j < t → f j = g j) → wdL f t = wdL g t
  | 0, _ => rfl
  | t + 1, h => by
    rw [wd_succ, wd_succ, wd_cong fun j hj => h j (by omega), h t (by omega)]
theorem wd_mem {f : Nat → Nat} {t j : Nat} (hj : j < t) : ((j : Nat) : Int) ∈ wdL f t ↔ 1 ≤ f j := by
  rw [← List.count_pos_iff, wd_count, if_pos hj]
  rfl
theorem wd_less {f : Nat → Nat} {t : Nat} {g : List Int} (nd : g.Nodup) (hg : rowIn (t : Nat) g) (h : ∀ x ∈ g, x ∈ wdL f t) : (offL (wdL f t) g).Perm (wdL (fun j => f j - oneIn g j) t) := by
  refine (List.perm_append_left_iff g).mp ((off_perm nd h).symm.trans (List.perm_iff_count.mpr fun x => ?_))
  rw [List.count_append]
  by_cases hx : 0 ≤ x ∧ x < (t : Nat)
  · obtain ⟨j, rfl⟩ : ∃ j : Nat, x = (j : Nat) := ⟨x.toNat, by omega⟩
    have hj : j < t := by omega
    rw [wd_count, wd_count, if_pos hj, if_pos hj]
    by_cases hm : ((j : Nat) : Int) ∈ g
    · have h1 := List.nodup_iff_count.mp nd ((j : Nat) : Int)
      have h2 := List.count_pos_iff.mpr hm
      have h3 := (wd_mem hj).mp (h _ hm)
      unfold oneIn
      rw [if_pos hm]
      omega
    · unfold oneIn
      rw [if_neg hm, List.count_eq_zero.mpr hm]
      omega
  · have z : ∀ f : Nat → Nat, (wdL f t).count x = 0 := fun f => List.count_eq_zero.mpr fun m => hx (wd_in f t x m)
    rw [z, z, List.count_eq_zero.mpr fun m => hx (hg x m)]
theorem lw_wd (cs : List Int) : lwL cs = wdL (cAt cs) cs.length := by
  unfold lwL wdL
  congr 1
  refine List.map_congr_left fun j _ => ?_
  rw [List.map_const', List.length_range]
end K1
namespace K1
open PySem PySem.Spec PyProof.Rows L2 Pt
theorem gr_bits2 (ps : List (Int × Int)) : ∀ k, ∀ S ∈ grL ps k, ∀ j : Nat, (bitsN S).testBit j = true → ((j : Nat) : Int) ∈ S
  | 0, S, h, j, hb => by
    have : S = [] := by simpa [grL] using h
    subst this
    have hb : (0 : Nat).testBit j = true := hb
    rw [Nat.zero_testBit] at hb
    cases hb
  | k + 1, S, h, j, hb => by
    unfold grL at h
    rcases List.mem_append.mp h with h | h
    · exact gr_bits2 ps k S h j hb
    · obtain ⟨T, hT, rfl⟩ := List.mem_map.mp h
      have hT := (List.mem_filter.mp hT).1
      have h1 := (gr_bits ps k T hT).1
      have e : bitsN (T ++ [((k : Nat) : Int)]) = 2 ^ k ||| bitsN T := by
        rw [bits_app, Int.toNat_natCast]
        have := Nat.two_pow_add_eq_or_of_lt h1 1
        rw [Nat.mul_one] at this
        omega
      rw [e, Nat.testBit_or, Nat.testBit_two_pow, Bool.or_eq_true, decide_eq_true_eq] at hb
      rcases hb with z | z
      · rw [← z]
        simp
      · exact List.mem_append_left _ (gr_bits2 ps k T hT j z)
theorem and_iff {a b : Nat} : a &&& b = a ↔ ∀ j, a.testBit j = true → b.testBit j = true := by
  constructor
  · intro h j hj
    rw [← h, Nat.testBit_and, Bool.and_eq_true] at hj
    exact hj.2
  · intro h
    refine Nat.eq_of_testBit_eq fun j => ?_
    rw [Nat.testBit_and]
    cases z : a.testBit j with
    | false => rfl
    | true => rw [h j z]; rfl
theorem in_place {n : Nat} {ps : List (Int × Int)} {cs : List Int} {k b : Nat} (hb : (chTo cs n)[k]? = some b) {S : List Int} (hS : S ∈ grL ps n) : bitsN S &&& b = bitsN S ↔ ∀ x ∈ S, x ∈ wdL (dg cs n k) n := by
  have hin := gr_lt ps n S hS
  rw [and_iff]
  constructor
  · intro h x hx
    obtain ⟨j, rfl⟩ : ∃ j : Nat, x = (j : Nat) := ⟨x.toNat, by have := hin x hx; omega⟩
    have hj : j < n := by have := hin _ hx; omega
    have := h j ((gr_bits ps n S hS).2 j hx)
    rw [ch_bits cs n k b hb, decide_eq_true_eq] at this
    exact (wd_mem hj).mpr this
  · intro h j hj
    have hm := gr_bits2 ps n S hS j hj
    have hn : j < n := by have := hin _ hm; omega
    rw [ch_bits cs n k b hb, decide_eq_true_eq]
    exact (wd_mem hn).mp (h _ hm)
theorem sum_filter {α : Type} (p : α → Bool) (f : α → Int) (L : List α) : ((L.filter p).map f).sum = (L.map fun x => if p x = true then f x else 0).sum := by
  induction L with
  | nil => rfl
  | cons x L ih =>
    rw [List.filter_cons, List.map_cons, List.sum_cons, ← ih]
    cases h : p x with
    | true => simp
    | false => simp
theorem sum_neg {α : Type} (f : α → Int) (L : List α) : (L.map fun x => - f x).sum = - (L.map f).sum := by
  induction L with
  | nil => rfl
  | cons x L ih => rw [List.map_cons, List.sum_cons, ih, List.map_cons, List.sum_cons]; omega
theorem gr_cons (ps : List (Int × Int)) : ∀ k, ∃ L, grL ps k = [] :: L ∧ ∀ S ∈ L, S ≠ []
  | 0 => ⟨[], rfl, fun S h => by cases h⟩
  | k + 1 => by
    obtain ⟨L, h1, h2⟩ := gr_cons ps k
    refine ⟨L ++ ((grL ps k).filter fun S => joins ps S (k : Nat)).map fun S => S ++ [((k : Nat) : Int)], ?_, fun S hS => ?_⟩
    · conv => lhs; unfold grL
      conv => lhs; lhs; rw [h1]
      rfl
    · rcases List.mem_append.mp hS with z | z
      · exact h2 S z
      · obtain ⟨T, _, rfl⟩ := List.mem_map.mp z
        simp
theorem word_next {n : Nat} {ps : List (Int × Int)} (hok : PairsOk (n : Nat) ps) {w : List Int} (hw : rowIn (n : Nat) w) (hne : w ≠ []) :
    (((grL ps n).filter fun S => !S.isEmpty).map fun S => if ∀ x ∈ S, x ∈ w then - sg S * ((pcN n ps (offL w S) : Nat) : Int) else 0).sum = ((pcN n ps w : Nat) : Int) := by
  obtain ⟨L, h1, h2⟩ := gr_cons ps n
  have r := word_rule hok hw hne
  rw [h1, List.map_cons, List.sum_cons] at r
  have e0 : sg [] * (if ∀ x ∈ ([] : List Int), x ∈ w then ((pcN n ps (offL w []) : Nat) : Int) else 0) = ((pcN n ps w : Nat) : Int) := by
    rw [if_pos fun x hx => by cases hx]
    show 1 * _ = _
    rw [Int.one_mul]
    rfl
  rw [e0] at r
  have e1 : (grL ps n).filter (fun S => !S.isEmpty) = L := by
    rw [h1, List.filter_cons]
    show L.filter _ = L
    exact List.filter_eq_self.mpr fun S hS => by
      have := h2 S hS
      simpa using this
  have e2 : (L.map fun S => if ∀ x ∈ S, x ∈ w then - sg S * ((pcN n ps (offL w S) : Nat) : Int) else 0) = L.map fun S => - (sg S * (if ∀ x ∈ S, x ∈ w then ((pcN n ps (offL w S) : Nat) : Int) else 0)) := List.map_congr_left fun S _ => by
    by_cases z : ∀ x ∈ S, x ∈ w
    · rw [if_pos z, if_pos z, Int.neg_mul]
    · rw [if_neg z, if_neg z, Int.mul_zero]
      rfl
  rw [e1, e2, sum_neg]
  omega
theorem pc_nil (n : Nat) (ps : List (Int × Int)) : pcN n ps [] = 1 := rfl
theorem hw_list {n : Nat} {ps : List (Int × Int)} (hok : PairsOk (n : Nat) ps) {cs : List Int} (hl : cs.length = n) : ∀ k : Nat, k < prodTo cs n → ∀ i, i ≤ k → (hwF n ps cs k).getD i 0 = ((pcN n ps (wdL (dg cs n i) n) : Nat) : Int) := by
  intro k
  induction k with
  | zero =>
    intro _ i hi
    have e : i = 0 := by omega
    subst e
    have z : ∀ t j, dg cs t 0 j = 0 := fun t => by
      induction t with
      | zero => intro j; rfl
      | succ t ih =>
        intro j
        unfold dg
        rw [Nat.zero_mod, Nat.zero_div, ih j]
        split <;> rfl
    have e0 : ∀ t, wdL (dg cs n 0) t = [] := fun t => by
      induction t with
      | zero => rfl
      | succ t ih => rw [wd_succ, ih, z n t]; rfl
    rw [e0 n, pc_nil]
    rfl
  | succ k ih =>
    intro hk i hi
    have len := hwF_len n ps cs k
    by_cases c : i ≤ k
    · show (hwF n ps cs k ++ _).getD i 0 = _
      rw [List.getD_eq_getElem?_getD, List.getElem?_append_left (by omega), ← List.getD_eq_getElem?_getD]
      exact ih (by omega) i c
    · have e : i = k + 1 := by omega
      subst e
      show (hwF n ps cs k ++ [_]).getD (k + 1) 0 = _
      rw [List.getD_eq_getElem?_getD, List.getElem?_append_right (by omega), len, Nat.sub_self]
      show ((gwL n ps cs ((chL cs).getD (k + 1) 0)).map fun q => q.2 * (hwF n ps cs k).getD (k + 1 - q.1.toNat) 0).sum = _
      have cl : (chTo cs n).length = prodTo cs n := ch_len cs n
      obtain ⟨b, hb⟩ : ∃ b, (chTo cs n)[k + 1]? = some b := ⟨_, List.getElem?_eq_getElem (by omega)⟩
      have eb : (chL cs).getD (k + 1) 0 = b := by
        show (chTo cs cs.length).getD (k + 1) 0 = b
        rw [hl, List.getD_eq_getElem?_getD, hb]
        rfl
      have hne : wdL (dg cs n (k + 1)) n ≠ [] := fun z => by
        have := dg_zero cs n (k + 1) hk fun j hj => by
          have := wd_count (dg cs n (k + 1)) j n
          rw [z, if_pos hj] at this
          exact this.symm
        omega
      rw [eb, ← word_next hok (wd_in _ n) hne]
      unfold gwL tlL
      rw [List.map_map, List.filter_map, List.map_map, sum_filter]
      have pm : ((sortE (grL ps n)).filter fun g => !g.isEmpty).Perm ((grL ps n).filter fun g => !g.isEmpty) := (sortE_perm _).filter _
      refine (sum_perm (pm.map _)).trans (sum_congr fun S hS => ?_)
      obtain ⟨hS, hSe⟩ := List.mem_filter.mp hS
      have hG := ((gr_groups (n := (n : Nat)) (ps := ps) n).mem S).mp hS
      have nd : S.Nodup := hG.2.1.imp fun h e => by omega
      have iff := in_place (cs := cs) hb hS
      show (if decide (bitsN S &&& b = bitsN S) = true then - sg S * (hwF n ps cs k).getD (k + 1 - ((farN cs S : Nat) : Int).toNat) 0 else 0) = _
      by_cases z : ∀ x ∈ S, x ∈ wdL (dg cs n (k + 1)) n
      · rw [if_pos z, if_pos (decide_eq_true (iff.mpr z))]
        obtain ⟨f1, f2⟩ := dg_less cs S nd n (k + 1) fun j hj hg => (wd_mem hj).mp (z _ hg)
        obtain ⟨x, hx⟩ : ∃ x, x ∈ S := List.exists_mem_of_ne_nil S (by simpa using hSe)
        have fp := far_pos cs S n ⟨x.toNat, by have := hG.1 x hx; omega, by rw [Int.toNat_of_nonneg (hG.1 x hx).1]; exact hx⟩
        have ef : farN cs S = farTo cs S n := by
          show farTo cs S cs.length = _
          rw [hl]
        rw [Int.toNat_natCast, ef, ih (by omega) (k + 1 - farTo cs S n) (by omega), wd_cong f2, pc_perm hok (wd_in _ n) (wd_less nd hG.1 z).symm]
      · rw [if_neg z, if_neg (by rw [decide_eq_true_eq]; exact fun y => z (iff.mp y))]
theorem hw_count {n : Nat} {ps : List (Int × Int)} (hok : PairsOk (n : Nat) ps) {cs : List Int} (hl : cs.length = n) : hwV n ps cs = ((pcN n ps (lwL cs) : Nat) : Int) := by
  have p := prod_pos cs n
  have e : (chL cs).length = prodTo cs n := by
    show (chTo cs cs.length).length = _
    rw [ch_len, hl]
  unfold hwV
  rw [e, hw_list hok hl (prodTo cs n - 1) (by omega) _ (Nat.le_refl _), lw_wd, hl, wd_cong fun j hj => dg_top cs n j hj]
end K1
set_option maxRecDepth 10000000
namespace K1
open PySem PySem.Spec PyProof.Rows L2 Pt
local macro_rules
  | `(tactic| walk_at "sz") => `(tactic| first
    | omega
    | decide
    | (simp; omega)
    | (simp [iL, row, pairsD]; omega))
  | `(tactic| walk_at "ea") => `(tactic| first
    | (with_reducible exact ea_nil)
    | ((with_reducible apply ea_consL); (focus (walk_at "ev")); (focus (walk_at "ea")))
    | ((with_reducible apply ea_consS); (focus (walk_at "ev")); (focus (walk_at "ea")))
    | ((with_reducible apply ea_cons); (focus (walk_at "ev")); (focus (walk_at "ea")))
    | ((with_reducible apply ea_consN); (focus (walk_at "en")); (focus (walk_at "ea"))))
  | `(tactic| walk_at "ed") => `(tactic| first
    | (with_reducible exact ed_nil)
    | ((with_reducible apply ed_cons); (focus (walk_at "ev")); (focus (walk_at "ed"))))
  | `(tactic| walk_at "en") => `(tactic| first
    | ((with_reducible apply en_lst); (focus (walk_at "ed")); (focus (simp)))
    | ((with_reducible apply en_listT); (focus (walk_at "ev")))
    | ((with_reducible apply en_addL); (focus (walk_at "ev")); (focus (walk_at "en")); (focus (walk_at "sz")))
    | ((with_reducible apply en_addN); (focus (walk_at "en")); (focus (walk_at "en")); (focus (walk_at "sz")))
    | ((with_reducible apply en_slL); (focus (walk_at "ev")); (focus (walk_at "eo")); (focus (walk_at "eo"))))
  | `(tactic| walk_at "eo") => `(tactic| first
    | (with_reducible exact eo_none)
    | ((with_reducible apply eo_some); (focus (walk_at "ev"))))
  | `(tactic| walk_at "et") => `(tactic| first
    | (with_reducible exact et_yes)
    | ((with_reducible apply et_test); (focus (walk_at "ev")))
    | ((with_reducible apply et_B); (focus (walk_at "ev")))
    | ((with_reducible apply et_truB); (focus (walk_at "ev")))
    | ((with_reducible apply et_truT); (focus (walk_at "ev")))
    | ((with_reducible apply et_not); (focus (walk_at "et")))
    | ((with_reducible apply et_and); (focus (walk_at "et")); (focus (intro _; walk_at "et")))
    | ((with_reducible apply et_or); (focus (walk_at "et")); (focus (intro _; walk_at "et"))))
  | `(tactic| walk_at "var") => `(tactic| first
    | ((with_reducible apply ev_varD); (focus (assumption)); (focus (rfl)))
    | ((with_reducible apply ev_varL); (focus (assumption)); (focus (rfl)))
    | ((with_reducible apply ev_varS); (focus (assumption)); (focus (rfl)))
    | ((with_reducible apply ev_varT); (focus (assumption)); (focus (rfl)))
    | ((with_reducible apply ev_varH); (focus (assumption)); (focus (rfl)))
    | ((with_reducible apply ev_varZ); (focus (assumption)); (focus (rfl))))
  | `(tactic| walk_at "ev") => `(tactic| first
    | walk_at "var"
    | (with_reducible exact ev_int)
    | (with_reducible exact ev_bl)
    | (with_reducible exact ev_str)
    | (with_reducible exact ev_non)
    | ((with_reducible apply ev_letters); (focus (walk_at "ev")))
    | ((with_reducible apply ev_pairs); (focus (walk_at "ev")))
    | ((with_reducible apply ev_addI); (focus (walk_at "ev")); (focus (walk_at "ev")))
    | ((with_reducible apply ev_addT); (focus (walk_at "ev")); (focus (walk_at "ev")); (focus (walk_at "sz")))
    | ((with_reducible apply ev_i0); (focus (walk_at "ev")); (focus (walk_at "ev")); (focus (first | exact fun _ => .int _ | exact fun _ => .bl _)))
    | ((with_reducible apply ev_iC); (focus (walk_at "ev")); (focus (walk_at "ev")); (focus (first | assumption | walk_at "cond")); (focus (exact fun _ => .int _)))
    | ((with_reducible apply ev_chain); (focus (walk_at "ev")); (focus (walk_at "ev")); (focus (walk_at "ev")))
    | ((with_reducible apply ev_eqI); (focus (walk_at "ev")); (focus (walk_at "ev")))
    | ((with_reducible apply ev_neI); (focus (walk_at "ev")); (focus (walk_at "ev")))
    | ((with_reducible apply ev_eqR); (focus (walk_at "ev")); (focus (walk_at "ev")))
    | ((with_reducible apply ev_neR); (focus (walk_at "ev")); (focus (walk_at "ev")))
    | ((with_reducible apply ev_isN); (focus (walk_at "ev")))
    | ((with_reducible apply ev_notN); (focus (walk_at "ev")))
    | ((with_reducible apply ev_in2); (focus (walk_at "ev")); (focus (walk_at "ev")); (focus (walk_at "ev")))
    | ((with_reducible apply ev_inP); (focus (walk_at "ev")); (focus (walk_at "ev")))
    | ((with_reducible apply ev_tup); (focus (walk_at "ed")); (focus (simp)))
    | ((with_reducible apply ev_lenT); (focus (walk_at "ev")))
    | ((with_reducible apply ev_lenL); (focus (walk_at "ev")))
    | ((with_reducible apply ev_lenS); (focus (walk_at "ev")))
    | ((with_reducible apply ev_lenN); (focus (walk_at "en")))
    | ((with_reducible apply ev_max2); (focus (walk_at "ev")); (focus (walk_at "ev")))
    | ((with_reducible apply ev_min2); (focus (walk_at "ev")); (focus (walk_at "ev")))
    | ((with_reducible apply ev_int1); (focus (walk_at "ev")))
    | ((with_reducible apply ev_tupleL); (focus (walk_at "ev")))
    | ((with_reducible apply ev_tupleN); (focus (walk_at "en")))
    | ((with_reducible apply ev_countT); (focus (walk_at "ev")); (focus (walk_at "ev")))
    | ((with_reducible apply ev_andV); (focus (walk_at "ev")); (focus (intro _; walk_at "ev")))
    | ((with_reducible apply ev_orV); (focus (walk_at "ev")); (focus (intro _; walk_at "ev")))
    | ((with_reducible apply ev_notV); (focus (walk_at "ev"))))
def lessC (cs : List Int) (a : Nat) : List Int := cs.take a ++ [cs.getD a 0 - 1] ++ cs.drop (a + 1)
def wordsN : Nat → List Int → List (List Int)
  | 0, _ => [[]]
  | s + 1, cs => ((List.range cs.length).map fun a => if 0 < cs.getD a 0 then (wordsN s (lessC cs a)).map fun r => ((a : Nat) : Int) :: r else []).flatten
def countsN : Nat → Nat → List (List Int)
  | 0, l => [[(l : Int)]]
  | n + 1, l => ((List.range (l + 1)).map fun f => (countsN n (l - f)).map fun r => ((f : Nat) : Int) :: r).flatten
theorem less_len {cs : List Int} {a : Nat} (h : a < cs.length) : (lessC cs a).length = cs.length := by
  unfold lessC
  simp
  omega
theorem less_split {cs : List Int} {a : Nat} (h : a < cs.length) : cs = cs.take a ++ [cs.getD a 0] ++ cs.drop (a + 1) := by
  have e : cs.getD a 0 = cs[a] := by rw [List.getD_eq_getElem?_getD, List.getElem?_eq_getElem h]; rfl
  rw [e, List.append_assoc, List.singleton_append, List.getElem_cons_drop, List.take_append_drop]
theorem sum_split (u v : List Int) : (u ++ v).sum = u.sum + v.sum := by
  induction u with
  | nil => simp
  | cons x u ih => rw [List.cons_append, List.sum_cons, List.sum_cons, ih]; omega
theorem less_sum {cs : List Int} {a : Nat} (h : a < cs.length) : (lessC cs a).sum = cs.sum - 1 := by
  have e := congrArg List.sum (less_split h)
  unfold lessC
  rw [sum_split, sum_split] at e ⊢
  simp only [List.sum_cons, List.sum_nil] at e ⊢
  omega
theorem less_pos {cs : List Int} {a : Nat} (h : a < cs.length) (h0 : ∀ c ∈ cs, 0 ≤ c) (hp : 0 < cs.getD a 0) : ∀ c ∈ lessC cs a, 0 ≤ c := fun c hc => by
  unfold lessC at hc
  rcases List.mem_append.mp hc with hc | hc
  · rcases List.mem_append.mp hc with hc | hc
    · exact h0 c (List.mem_of_mem_take hc)
    · have := List.mem_singleton.mp hc
      omega
  · exact h0 c (List.mem_of_mem_drop hc)
def partN (s : Nat) (cs : List Int) (k : Nat) : List (List Int) := ((List.range k).map fun a => if 0 < cs.getD a 0 then (wordsN s (lessC cs a)).map fun r => ((a : Nat) : Int) :: r else []).flatten
theorem part_succ (s : Nat) (cs : List Int) (k : Nat) : partN s cs (k + 1) = partN s cs k ++ if 0 < cs.getD k 0 then (wordsN s (lessC cs k)).map fun r => ((k : Nat) : Int) :: r else [] := by
  unfold partN
  rw [List.range_succ, List.map_append, List.flatten_append]
  simp
theorem words_len : ∀ (s : Nat) (cs : List Int), (wordsN s cs).length ≤ cs.length ^ s
  | 0, _ => Nat.le_refl _
  | s + 1, cs => by
    have go : ∀ k, k ≤ cs.length → (partN s cs k).length ≤ k * cs.length ^ s := fun k => by
      induction k with
      | zero => intro _; exact Nat.zero_le _
      | succ k ih =>
        intro hk
        have h1 := ih (by omega)
        have h2 := words_len s (lessC cs k)
        rw [less_len (by omega)] at h2
        rw [part_succ, List.length_append, Nat.succ_mul]
        split
        · rw [List.length_map]; omega
        · simp; omega
    have := go cs.length (Nat.le_refl _)
    rw [Nat.pow_succ, Nat.mul_comm]
    exact this
theorem words_mem : ∀ (s : Nat) (cs r : List Int), r ∈ wordsN s cs → r.length = s
  | 0, cs, r, h => by
    rw [List.mem_singleton.mp (show r ∈ [[]] from h)]
    rfl
  | s + 1, cs, r, h => by
    obtain ⟨L, hL, hr⟩ := List.mem_flatten.mp (show r ∈ ((List.range cs.length).map _).flatten from h)
    obtain ⟨a, _, rfl⟩ := List.mem_map.mp hL
    split at hr
    · obtain ⟨t, ht, rfl⟩ := List.mem_map.mp hr
      rw [List.length_cons, words_mem s _ t ht]
    · cases hr
theorem words_few {s : Nat} {cs : List Int} (h6 : cs.length ≤ 6) (hs : s ≤ 6) : (wordsN s cs).length ≤ 46656 := by
  refine Nat.le_trans (words_len s cs) (Nat.le_trans (Nat.pow_le_pow_left h6 s) ?_)
  exact Nat.le_trans (Nat.pow_le_pow_right (by decide) hs) (by decide)
theorem part_few {s : Nat} {cs : List Int} (h6 : cs.length ≤ 6) (hs : s ≤ 6) : ∀ k, k ≤ cs.length → (partN s cs k).length ≤ k * 46656
  | 0, _ => Nat.zero_le _
  | k + 1, hk => by
    have h1 := part_few h6 hs k (by omega)
    have h2 := words_few (cs := lessC cs k) (s := s) (by rw [less_len (by omega)]; exact h6) hs
    rw [part_succ, List.length_append, Nat.succ_mul]
    split
    · rw [List.length_map]; omega
    · simp; omega
section
variable {P : Program} {w : World} {K : PySem.W.Frag} {mg : Str → Option Value} {base : Heap}
abbrev A_law_rows (m : Nat) (as : List Ag) (ds : List PyData) : Prop := ∃ (cs : List Int) (s : Nat), cs.length ≤ 6 ∧ (∀ c ∈ cs, 0 ≤ c) ∧ cs.sum = (s : Nat) ∧ s < m ∧ s ≤ 6 ∧ as = [.c (.d (row cs))] ∧ ds = (wordsN s cs).map row
theorem ok__law_rowsN (E : Nv K mg) : ∀ m : Nat, FnOk P w K mg base CX0 (10 + m) E.a__law_rows E.d__law_rows ["_law_counts"] (spN K E.C_Trade (A_law_rows m)) := by
  intro m
  induction m with
  | zero => exact ⟨fun vs H Q E h => by
      obtain ⟨_, _, _, ⟨_, _, _, _, _, z, _⟩, _⟩ := h
      exact absurd z (Nat.not_lt_zero _), fun A outer s H args us vs Q E _ _ _ _ h => by
      obtain ⟨_, _, _, ⟨_, _, _, _, _, z, _⟩, _⟩ := h
      exact absurd z (Nat.not_lt_zero _)⟩
  | succ m ih =>
    refine E.F__law_rows.ok sc__law_rows (fun vs H Q _ h => ?_) (fun cdv A outer s H vs Q _ hr h => ?_)
    · obtain ⟨as, d, ha, ⟨_, _, _, _, _, _, _, rfl, _⟩, _⟩ := h
      exact ha.length
    · obtain ⟨as, d, ha, ⟨cs, t, h6, h0, hs, ht, t6, rfl, rfl⟩, q⟩ := h
      obtain ⟨v1, rfl, a1⟩ := ha.one
      refine ⟨_, (pss_cons (ps_if (pt_cmpR (op_eqK K hr.units) (pe_callB (cr_sumTK K rfl) (by rfl) E.n_sum (by decide +kernel) (pa_cons (pv 0) pa_nil)) pe_int (nomark _)) (pss_one (ps_ret (pe_lst (pa_cons (pe_tupF pa_nil) pa_nil)))) pss_nil)
      (pss_cons (ps_set (i := 1) sc__law_rows.nd rfl (.inl rfl) (pe_lst pa_nil))
      (pss_cons (ps_for PassesOwn.never rfl (pi_range1 (by rfl) E.n_range (pa_cons (pe_callB (call_lenK K) (by rfl) E.n_len (by decide +kernel) (pa_cons (pv 0) pa_nil)) pa_nil)) (pg_name (i := 2) sc__law_rows.nd rfl (.inr rfl))
      (pss_one (ps_if (pt_cmpR (op_gt) (pe_ix (ix_K K) (pv 0) (pv 2) (fun _ _ => rfl)) pe_int (nomark _)) (pss_cons (ps_set (i := 3) sc__law_rows.nd rfl (.inl rfl) (pe_op (op_addK K) (pe_op (op_addK K) (pe_slice (sl_K K) (pv 0) po_none (po_some (pv 2))) (pe_tupF (pa_cons (pe_op op_sub (pe_ix (ix_K K) (pv 0) (pv 2) (fun _ _ => rfl)) pe_int) pa_nil))) (pe_slice (sl_K K) (pv 0) (po_some (pe_op (op_addK K) (pv 2) pe_int)) po_none)))
      (pss_one (ps_set (i := 1) sc__law_rows.nd rfl (.inl rfl) (pe_op (op_addK K) (pv 1) (pe_lc (own := [("_law_row_here", 4)]) (g := gName 4) (by rfl) sc__law_rows.nd (pi_listK K (pe_call ih (hr.mono (Nat.le_refl _)) (by rfl) E.m__law_rows E.F__law_rows.kp E.b__law_rows .nil pass0 (pa_cons (pv 3) pa_nil))) (blkOk_by (own := [("_law_row_here", 4)]) (N := N__law_rows) (sc := defScope s__law_rows) (by decide +kernel)) (fun _ _ _ _ _ => (pg_name (i := 4) sc__law_rows.nd rfl (Or.inl rfl))) (fun _ _ _ _ _ => pts_nil) (fun _ _ _ _ _ => (pe_op (op_addK K) (pe_tupF (pa_cons (pv 2) pa_nil)) (pv 4)))))))) pss_nil)))
      (pss_one (ps_ret (pv 1)))))), ?_⟩
      have w0 : Wd K E.C_Trade [] [] H H _ [.d (row cs), .u, .u, .u, .u] := Wd.start1 (N := N__law_rows) (c1 := .d (row cs)) a1
      refine s_when w0 (et_test (ev_eqI (ev_sumT (ev_var (i := 0) w0 rfl)) ev_int)) (fun y H1 w1 => ?_) (fun y H1 w1 => ?_)
      · have y := of_decide_eq_true y
        obtain rfl : t = 0 := by omega
        exact s_retNQ w1 q (en_lst (ds := [row []]) (ed_cons (ev_d (e := row []) (ev_tup ed_nil) rfl) ed_nil) (Nat.le_of_ble_eq_true rfl))
      · have y := of_decide_eq_false y
        obtain ⟨u, rfl⟩ : ∃ u, t = u + 1 := ⟨t - 1, by omega⟩
        refine q_asgN w1 (en_lst (ds := (partN u cs 0).map row) ed_nil (Nat.zero_le _)) fun p σ2 H2 _ w2 => ?_
        have w2' : Wd K E.C_Trade [] [] H H2 σ2 [.d (row cs), .l p ((partN u cs 0).map row), .u, .u, .u] := w2
        refine q_forR1 w2' (n := (cs.length : Nat)) (ea_cons (ev_d (ev_lenT (ev_var (i := 0) w2' rfl)) (by rw [iL_len])) ea_nil) (by omega) (fun k σ H' => ∃ p c2 c3 c4, Wd K E.C_Trade [] [] H H' σ [.d (row cs), .l p ((partN u cs k).map row), c2, c3, c4]) (fun H3 w3 => ⟨_, _, _, _, w3⟩) ?_ ?_
        · rintro k σ H' hk ⟨p, c2, c3, c4, w3⟩
          have hk : k < cs.length := by omega
          have w4 : Wd K E.C_Trade [] [] H H' _ [.d (row cs), .l p ((partN u cs k).map row), .d (.int (k : Nat)), c3, c4] := w3.set 2 (v := .int (k : Nat)) (c := .d (.int (k : Nat))) (Td.int _)
          have hat : atI (iL cs) ((k : Nat) : Int) = some (.int (cs.getD k 0)) := atI_nat (by
            unfold iL
            rw [List.getElem?_map, List.getElem?_eq_getElem hk, List.getD_eq_getElem?_getD, List.getElem?_eq_getElem hk]
            rfl)
          have fw := part_few (s := u) h6 (by omega) k (by omega)
          refine s_if w4 (et_test (ev_i0 (ev_ixT (ev_var (i := 0) w4 rfl) (ev_var (i := 2) w4 rfl) hat) ev_int (fun _ => .bl _))) (fun z H5 w5 => ?_) (fun z H5 w5 => ?_)
          · have z := of_decide_eq_true z
            refine q_asgD w5 (d := row (lessC cs k)) (ev_d (ev_addT (ev_addT (ev_slT (ev_var (i := 0) w5 rfl) eo_none (eo_some (ev_var (i := 2) w5 rfl))) (ev_tup (ed_cons (ev_i0 (ev_ixT (ev_var (i := 0) w5 rfl) (ev_var (i := 2) w5 rfl) hat) ev_int (fun _ => .int _)) ed_nil)) ?_) (ev_slT (lo := some ((k + 1 : Nat) : Int)) (ev_var (i := 0) w5 rfl) (eo_some (ev_d (ev_addI (ev_var (i := 2) w5 rfl) ev_int) (by congr 1))) eo_none) ?_) ?_) fun σ6 H6 w6 => ?_
            · rw [cut_to]
              simp [iL]
              omega
            · rw [cut_to, cut_from]
              simp [iL]
              omega
            · rw [cut_to, cut_from]
              unfold lessC row iL
              rw [List.map_append, List.map_append, List.map_take, List.map_drop]
              rfl
            · have w6' : Wd K E.C_Trade [] [] H H6 σ6 [.d (row cs), .l p ((partN u cs k).map row), .d (.int (k : Nat)), .d (row (lessC cs k)), c4] := w6
              have fl := words_few (s := u) (cs := lessC cs k) (by rw [less_len hk]; exact h6) (by omega)
              refine s_asgN w6' (en_cast (es := (partN u cs (k + 1)).map row) (en_addL (ev_var (i := 1) w6' rfl) (en_lcN (j := 4) (l := wordsN u (lessC cs k)) (mk := row) w6' (en_call (ea_cons (ev_var (i := 3) w6' rfl) ea_nil) ⟨lessC cs k, u, by rw [less_len hk]; exact h6, less_pos hk h0 z, by rw [less_sum hk]; omega, by omega, by omega, rfl, rfl⟩) (fun _ => true) (fun r => row (((k : Nat) : Int) :: r)) (by omega) (fun r hr σ7 H7 w7 => et_yes) (fun r hr σ7 H7 w7 _ => ev_d (ev_addT (ev_tup (ed_cons (ev_var (i := 2) w7 rfl) ed_nil)) (ev_var (i := 4) w7 rfl) (by rw [iL_len, words_mem _ _ r hr]; simp; omega)) rfl)) (by rw [kept_all]; simp; omega)) ?_) fun p' σ7 H7 _ w7 => ⟨p', _, _, _, w7⟩
              rw [kept_all, part_succ, if_pos z, List.map_append, List.map_map]
              rfl
          · have z := of_decide_eq_false z
            refine ⟨p, .d (.int (k : Nat)), c3, c4, ?_⟩
            rw [part_succ, if_neg z, List.append_nil]
            exact w5
        · rintro σ H' ⟨p, c2, c3, c4, w3⟩
          rw [Int.toNat_natCast] at w3
          exact s_retLQ w3 q rfl
end
end K1
set_option maxRecDepth 10000000
namespace K1
open PySem PySem.Spec PyProof.Rows L2 Pt
local macro_rules
  | `(tactic| walk_at "sz") => `(tactic| first
    | omega
    | decide
    | (simp; omega)
    | (simp [iL, row, pairsD]; omega))
  | `(tactic| walk_at "ea") => `(tactic| first
    | (with_reducible exact ea_nil)
    | ((with_reducible apply ea_consL); (focus (walk_at "ev")); (focus (walk_at "ea")))
    | ((with_reducible apply ea_consS); (focus (walk_at "ev")); (focus (walk_at "ea")))
    | ((with_reducible apply ea_cons); (focus (walk_at "ev")); (focus (walk_at "ea")))
    | ((with_reducible apply ea_consN); (focus (walk_at "en")); (focus (walk_at "ea"))))
  | `(tactic| walk_at "ed") => `(tactic| first
    | (with_reducible exact ed_nil)
    | ((with_reducible apply ed_cons); (focus (walk_at "ev")); (focus (walk_at "ed"))))
  | `(tactic| walk_at "en") => `(tactic| first
    | ((with_reducible apply en_lst); (focus (walk_at "ed")); (focus (simp)))
    | ((with_reducible apply en_listT); (focus (walk_at "ev")))
    | ((with_reducible apply en_addL); (focus (walk_at "ev")); (focus (walk_at "en")); (focus (walk_at "sz")))
    | ((with_reducible apply en_addN); (focus (walk_at "en")); (focus (walk_at "en")); (focus (walk_at "sz")))
    | ((with_reducible apply en_slL); (focus (walk_at "ev")); (focus (walk_at "eo")); (focus (walk_at "eo"))))
  | `(tactic| walk_at "eo") => `(tactic| first
    | (with_reducible exact eo_none)
    | ((with_reducible apply eo_some); (focus (walk_at "ev"))))
  | `(tactic| walk_at "et") => `(tactic| first
    | (with_reducible exact et_yes)
    | ((with_reducible apply et_test); (focus (walk_at "ev")))
    | ((with_reducible apply et_B); (focus (walk_at "ev")))
    | ((with_reducible apply et_truB); (focus (walk_at "ev")))
    | ((with_reducible apply et_truT); (focus (walk_at "ev")))
    | ((with_reducible apply et_not); (focus (walk_at "et")))
    | ((with_reducible apply et_and); (focus (walk_at "et")); (focus (intro _; walk_at "et")))
    | ((with_reducible apply et_or); (focus (walk_at "et")); (focus (intro _; walk_at "et"))))
  | `(tactic| walk_at "var") => `(tactic| first
    | ((with_reducible apply ev_varD); (focus (assumption)); (focus (rfl)))
    | ((with_reducible apply ev_varL); (focus (assumption)); (focus (rfl)))
    | ((with_reducible apply ev_varS); (focus (assumption)); (focus (rfl)))
    | ((with_reducible apply ev_varT); (focus (assumption)); (focus (rfl)))
    | ((with_reducible apply ev_varH); (focus (assumption)); (focus (rfl)))
    | ((with_reducible apply ev_varZ); (focus (assumption)); (focus (rfl))))
  | `(tactic| walk_at "ev") => `(tactic| first
    | walk_at "var"
    | (with_reducible exact ev_int)
    | (with_reducible exact ev_bl)
    | (with_reducible exact ev_str)
    | (with_reducible exact ev_non)
    | ((with_reducible apply ev_letters); (focus (walk_at "ev")))
    | ((with_reducible apply ev_pairs); (focus (walk_at "ev")))
    | ((with_reducible apply ev_addI); (focus (walk_at "ev")); (focus (walk_at "ev")))
    | ((with_reducible apply ev_addT); (focus (walk_at "ev")); (focus (walk_at "ev")); (focus (walk_at "sz")))
    | ((with_reducible apply ev_i0); (focus (walk_at "ev")); (focus (walk_at "ev")); (focus (first | exact fun _ => .int _ | exact fun _ => .bl _)))
    | ((with_reducible apply ev_iC); (focus (walk_at "ev")); (focus (walk_at "ev")); (focus (first | assumption | walk_at "cond")); (focus (exact fun _ => .int _)))
    | ((with_reducible apply ev_chain); (focus (walk_at "ev")); (focus (walk_at "ev")); (focus (walk_at "ev")))
    | ((with_reducible apply ev_eqI); (focus (walk_at "ev")); (focus (walk_at "ev")))
    | ((with_reducible apply ev_neI); (focus (walk_at "ev")); (focus (walk_at "ev")))
    | ((with_reducible apply ev_eqR); (focus (walk_at "ev")); (focus (walk_at "ev")))
    | ((with_reducible apply ev_neR); (focus (walk_at "ev")); (focus (walk_at "ev")))
    | ((with_reducible apply ev_isN); (focus (walk_at "ev")))
    | ((with_reducible apply ev_notN); (focus (walk_at "ev")))
    | ((with_reducible apply ev_in2); (focus (walk_at "ev")); (focus (walk_at "ev")); (focus (walk_at "ev")))
    | ((with_reducible apply ev_inP); (focus (walk_at "ev")); (focus (walk_at "ev")))
    | ((with_reducible apply ev_tup); (focus (walk_at "ed")); (focus (simp)))
    | ((with_reducible apply ev_lenT); (focus (walk_at "ev")))
    | ((with_reducible apply ev_lenL); (focus (walk_at "ev")))
    | ((with_reducible apply ev_lenS); (focus (walk_at "ev")))
    | ((with_reducible apply ev_lenN); (focus (walk_at "en")))
    | ((with_reducible apply ev_max2); (focus (walk_at "ev")); (focus (walk_at "ev")))
    | ((with_reducible apply ev_min2); (focus (walk_at "ev")); (focus (walk_at "ev")))
    | ((with_reducible apply ev_int1); (focus (walk_at "ev")))
    | ((with_reducible apply ev_tupleL); (focus (walk_at "ev")))
    | ((with_reducible apply ev_tupleN); (focus (walk_at "en")))
    | ((with_reducible apply ev_countT); (focus (walk_at "ev")); (focus (walk_at "ev")))
    | ((with_reducible apply ev_andV); (focus (walk_at "ev")); (focus (intro _; walk_at "ev")))
    | ((with_reducible apply ev_orV); (focus (walk_at "ev")); (focus (intro _; walk_at "ev")))
    | ((with_reducible apply ev_notV); (focus (walk_at "ev"))))
def cpartN (n l k : Nat) : List (List Int) := ((List.range k).map fun f => (countsN n (l - f)).map fun r => ((f : Nat) : Int) :: r).flatten
theorem cpart_succ (n l k : Nat) : cpartN n l (k + 1) = cpartN n l k ++ (countsN n (l - k)).map fun r => ((k : Nat) : Int) :: r := by
  unfold cpartN
  rw [List.range_succ, List.map_append, List.flatten_append]
  simp
theorem counts_len : ∀ (n l : Nat), l ≤ 20 → (countsN n l).length ≤ 21 ^ n
  | 0, _, _ => Nat.le_refl _
  | n + 1, l, hl => by
    have go : ∀ k, k ≤ l + 1 → (cpartN n l k).length ≤ k * 21 ^ n := fun k => by
      induction k with
      | zero => intro _; exact Nat.zero_le _
      | succ k ih =>
        intro hk
        have h1 := ih (by omega)
        have h2 := counts_len n (l - k) (by omega)
        rw [cpart_succ, List.length_append, List.length_map, Nat.succ_mul]
        omega
    have h := go (l + 1) (Nat.le_refl _)
    refine Nat.le_trans h ?_
    rw [Nat.pow_succ, Nat.mul_comm (21 ^ n)]
    exact Nat.mul_le_mul_right _ (by omega)
theorem counts_mem : ∀ (n l : Nat) (r : List Int), r ∈ countsN n l → r.length = n + 1
  | 0, l, r, h => by
    rw [List.mem_singleton.mp (show r ∈ [[(l : Int)]] from h)]
    rfl
  | n + 1, l, r, h => by
    obtain ⟨L, hL, hr⟩ := List.mem_flatten.mp (show r ∈ ((List.range (l + 1)).map _).flatten from h)
    obtain ⟨a, _, rfl⟩ := List.mem_map.mp hL
    obtain ⟨t, ht, rfl⟩ := List.mem_map.mp hr
    rw [List.length_cons, counts_mem n _ t ht]
theorem counts_few {n l : Nat} (hn : n ≤ 3) (hl : l ≤ 20) : (countsN n l).length ≤ 9261 := Nat.le_trans (counts_len n l hl) (Nat.le_trans (Nat.pow_le_pow_right (by decide) hn) (by decide))
theorem cpart_few {n l : Nat} (hn : n ≤ 3) (hl : l ≤ 20) : ∀ k, (cpartN n l k).length ≤ k * 9261
  | 0 => Nat.zero_le _
  | k + 1 => by
    have h1 := cpart_few hn hl k
    have h2 := counts_few (l := l - k) hn (by omega)
    rw [cpart_succ, List.length_append, List.length_map, Nat.succ_mul]
    omega
section
variable {P : Program} {w : World} {K : PySem.W.Frag} {mg : Str → Option Value} {base : Heap}
abbrev A_law_all_counts (m : Nat) (as : List Ag) (ds : List PyData) : Prop := ∃ (n l : Nat), n < m ∧ n ≤ 3 ∧ l ≤ 20 ∧ as = [.c (.d (.int (n + 1 : Nat))), .c (.d (.int (l : Nat)))] ∧ ds = (countsN n l).map row
theorem ok__law_all_countsN (E : Nv K mg) : ∀ m : Nat, FnOk P w K mg base CX0 (4 + m) E.a__law_all_counts E.d__law_all_counts ["_law_letters", "_law_length"] (spN K E.C_Trade (A_law_all_counts m)) := by
  intro m
  induction m with
  | zero => exact ⟨fun vs H Q E h => by
      obtain ⟨_, _, _, ⟨_, _, z, _⟩, _⟩ := h
      exact absurd z (Nat.not_lt_zero _), fun A outer s H args us vs Q E _ _ _ _ h => by
      obtain ⟨_, _, _, ⟨_, _, z, _⟩, _⟩ := h
      exact absurd z (Nat.not_lt_zero _)⟩
  | succ m ih =>
    refine E.F__law_all_counts.ok sc__law_all_counts (fun vs H Q _ h => ?_) (fun cdv A outer s H vs Q _ hr h => ?_)
    · obtain ⟨as, d, ha, ⟨_, _, _, _, _, rfl, _⟩, _⟩ := h
      exact ha.length
    · obtain ⟨as, d, ha, ⟨n, l, hm, h3, h20, rfl, rfl⟩, q⟩ := h
      obtain ⟨v1, v2, rfl, a1, a2⟩ := ha.two
      refine ⟨_, (pss_cons (ps_if (pt_cmpR (op_eqK K hr.units) (pv 0) pe_int (nomark _)) (pss_one (ps_ret (pe_lst (pa_cons (pe_tupF (pa_cons (pv 1) pa_nil)) pa_nil)))) pss_nil)
      (pss_cons (ps_set (i := 2) sc__law_all_counts.nd rfl (.inl rfl) (pe_lst pa_nil))
      (pss_cons (ps_for PassesOwn.never rfl (pi_range1 (by rfl) E.n_range (pa_cons (pe_op (op_addK K) (pv 1) pe_int) pa_nil)) (pg_name (i := 3) sc__law_all_counts.nd rfl (.inr rfl))
      (pss_one (ps_set (i := 2) sc__law_all_counts.nd rfl (.inl rfl) (pe_op (op_addK K) (pv 2) (pe_lc (own := [("_law_row_here", 4)]) (g := gName 4) (by rfl) sc__law_all_counts.nd (pi_listK K (pe_call ih (hr.mono (Nat.le_refl _)) (by rfl) E.m__law_all_counts E.F__law_all_counts.kp E.b__law_all_counts .nil pass0 (pa_cons (pe_op op_sub (pv 0) pe_int) (pa_cons (pe_op op_sub (pv 1) (pv 3)) pa_nil)))) (blkOk_by (own := [("_law_row_here", 4)]) (N := N__law_all_counts) (sc := defScope s__law_all_counts) (by decide +kernel)) (fun _ _ _ _ _ => (pg_name (i := 4) sc__law_all_counts.nd rfl (Or.inl rfl))) (fun _ _ _ _ _ => pts_nil) (fun _ _ _ _ _ => (pe_op (op_addK K) (pe_tupF (pa_cons (pv 3) pa_nil)) (pv 4))))))))
      (pss_one (ps_ret (pv 2)))))), ?_⟩
      have w0 : Wd K E.C_Trade [] [] H H _ [.d (.int (n + 1 : Nat)), .d (.int (l : Nat)), .u, .u, .u] := Wd.start2 (N := N__law_all_counts) (c1 := .d (.int (n + 1 : Nat))) (c2 := .d (.int (l : Nat))) a1 a2
      refine s_when w0 (et_test (ev_eqI (ev_var (i := 0) w0 rfl) ev_int)) (fun y H1 w1 => ?_) (fun y H1 w1 => ?_)
      · have y := of_decide_eq_true y
        obtain rfl : n = 0 := by omega
        exact s_retNQ w1 q (en_lst (ds := [row [((l : Nat) : Int)]]) (ed_cons (ev_d (e := row [((l : Nat) : Int)]) (ev_tup (ed_cons (ev_var (i := 1) w1 rfl) ed_nil) (Nat.le_of_ble_eq_true rfl)) rfl) ed_nil) (Nat.le_of_ble_eq_true rfl))
      · have y := of_decide_eq_false y
        obtain ⟨u, rfl⟩ : ∃ u, n = u + 1 := ⟨n - 1, by omega⟩
        refine q_asgN w1 (en_lst (ds := (cpartN u l 0).map row) ed_nil (Nat.zero_le _)) fun p σ2 H2 _ w2 => ?_
        have w2' : Wd K E.C_Trade [] [] H H2 σ2 [.d (.int (u + 1 + 1 : Nat)), .d (.int (l : Nat)), .l p ((cpartN u l 0).map row), .u, .u] := w2
        refine q_forR1 w2' (n := (l : Int) + 1) (ea_cons (ev_addI (ev_var (i := 1) w2' rfl) ev_int) ea_nil) (by omega) (fun k σ H' => ∃ p c3 c4, Wd K E.C_Trade [] [] H H' σ [.d (.int (u + 1 + 1 : Nat)), .d (.int (l : Nat)), .l p ((cpartN u l k).map row), c3, c4]) (fun H3 w3 => ⟨_, _, _, w3⟩) ?_ ?_
        · rintro k σ H' hk ⟨p, c3, c4, w3⟩
          have hk : k ≤ l := by omega
          have w4 : Wd K E.C_Trade [] [] H H' _ [.d (.int (u + 1 + 1 : Nat)), .d (.int (l : Nat)), .l p ((cpartN u l k).map row), .d (.int (k : Nat)), c4] := w3.set 3 (v := .int (k : Nat)) (c := .d (.int (k : Nat))) (Td.int _)
          have fw := cpart_few (n := u) (l := l) (by omega) h20 k
          have fl := counts_few (n := u) (l := l - k) (by omega) (by omega)
          refine s_asgN w4 (en_cast (es := (cpartN u l (k + 1)).map row) (en_addL (ev_var (i := 2) w4 rfl) (en_lcN (j := 4) (l := countsN u (l - k)) (mk := row) w4 (en_call (ea_cons (ev_d (e := .int (u + 1 : Nat)) (ev_i0 (ev_var (i := 0) w4 rfl) ev_int (fun _ => .int _)) (by congr 1; omega)) (ea_cons (ev_d (e := .int (l - k : Nat)) (ev_i0 (ev_var (i := 1) w4 rfl) (ev_var (i := 3) w4 rfl) (fun _ => .int _)) (by congr 1; omega)) ea_nil)) ⟨u, l - k, by omega, by omega, by omega, rfl, rfl⟩) (fun _ => true) (fun r => row (((k : Nat) : Int) :: r)) (by omega) (fun r hr σ7 H7 w7 => et_yes) (fun r hr σ7 H7 w7 _ => ev_d (ev_addT (ev_tup (ed_cons (ev_var (i := 3) w7 rfl) ed_nil)) (ev_var (i := 4) w7 rfl) (by rw [iL_len, counts_mem _ _ r hr]; simp; omega)) rfl)) (by rw [kept_all]; simp; omega)) ?_) fun p' σ7 H7 _ w7 => ⟨p', _, _, w7⟩
          rw [kept_all, cpart_succ, List.map_append, List.map_map]
          rfl
        · rintro σ H' ⟨p, c3, c4, w3⟩
          rw [show ((l : Int) + 1).toNat = l + 1 by omega] at w3
          exact s_retLQ w3 q rfl
end
end K1
namespace K1
open PySem PySem.Spec PyProof.Rows L2 Pt
theorem less_at {cs : List Int} {a : Nat} (h : a < cs.length) (j : Nat) : (lessC cs a).getD j 0 = if j = a then cs.getD a 0 - 1 else cs.getD j 0 := by
  have e : lessC cs a = cs.set a (cs.getD a 0 - 1) := by
    rw [List.set_eq_take_append_cons_drop, if_pos h]
    unfold lessC
    simp
  rw [e, List.getD_eq_getElem?_getD, List.getElem?_set]
  by_cases z : j = a
  · subst z
    rw [if_pos rfl, if_pos h, if_pos rfl]
    rfl
  · rw [if_neg fun y => z y.symm, if_neg z, List.getD_eq_getElem?_getD]
def cnt (cs : List Int) (x : Int) : Nat := if 0 ≤ x ∧ x < (cs.length : Nat) then (cs.getD x.toNat 0).toNat else 0
theorem getD_mem {cs : List Int} {j : Nat} (h : j < cs.length) : cs.getD j 0 ∈ cs := by
  rw [List.getD_eq_getElem?_getD, List.getElem?_eq_getElem h]
  exact List.getElem_mem h
theorem cnt_less {cs : List Int} {a : Nat} (h : a < cs.length) (x : Int) : cnt (lessC cs a) x = cnt cs x - if x = (a : Nat) then 1 else 0 := by
  unfold cnt
  rw [less_len h]
  by_cases z : 0 ≤ x ∧ x < (cs.length : Nat)
  · rw [if_pos z, if_pos z, less_at h]
    by_cases y : x = (a : Nat)
    · rw [if_pos (by omega), if_pos y, y, Int.toNat_natCast]
      omega
    · rw [if_neg (by omega), if_neg y]
      rfl
  · rw [if_neg z, if_neg z, Nat.zero_sub]
theorem sum_pos0 : ∀ {cs : List Int}, (∀ c ∈ cs, 0 ≤ c) → 0 ≤ cs.sum ∧ (cs.sum = 0 → ∀ c ∈ cs, c = 0)
  | [], _ => ⟨Int.le_refl _, fun _ c h => by cases h⟩
  | c :: cs, h => by
    obtain ⟨h1, h2⟩ := sum_pos0 fun d hd => h d (List.mem_cons_of_mem _ hd)
    have h3 := h c List.mem_cons_self
    rw [List.sum_cons]
    refine ⟨by omega, fun e d hd => ?_⟩
    rcases List.mem_cons.mp hd with z | z
    · omega
    · exact h2 (by omega) d z
theorem cnt_none {cs : List Int} (h0 : ∀ c ∈ cs, 0 ≤ c) : cs.sum = 0 ↔ ∀ x, cnt cs x = 0 := by
  constructor
  · intro e x
    unfold cnt
    split
    · rename_i z
      have := (sum_pos0 h0).2 e _ (getD_mem (cs := cs) (j := x.toNat) (by omega))
      omega
    · rfl
  · intro h
    have all : ∀ c ∈ cs, c = 0 := fun c hc => by
      obtain ⟨j, hj, rfl⟩ := List.getElem_of_mem hc
      have := h ((j : Nat) : Int)
      unfold cnt at this
      rw [if_pos ⟨by omega, by omega⟩, Int.toNat_natCast, List.getD_eq_getElem?_getD, List.getElem?_eq_getElem hj] at this
      have := h0 _ (List.getElem_mem hj)
      simp at *
      omega
    clear h h0
    induction cs with
    | nil => rfl
    | cons c cs ih =>
      rw [List.sum_cons, ih fun d hd => all d (List.mem_cons_of_mem _ hd), all c List.mem_cons_self]
      rfl
theorem words_iff : ∀ (s : Nat) (cs : List Int), (∀ c ∈ cs, 0 ≤ c) → cs.sum = (s : Nat) → ∀ r, r ∈ wordsN s cs ↔ ∀ x, r.count x = cnt cs x
  | 0, cs, h0, hs, r => by
    have z := (cnt_none h0).mp hs
    show r ∈ [[]] ↔ _
    rw [List.mem_singleton]
    constructor
    · rintro rfl x
      rw [z]
      rfl
    · intro h
      exact List.eq_nil_iff_forall_not_mem.mpr fun x hx => by
        have := List.count_pos_iff.mpr hx
        rw [h, z] at this
        omega
  | s + 1, cs, h0, hs, r => by
    show r ∈ ((List.range cs.length).map _).flatten ↔ _
    rw [List.mem_flatten]
    constructor
    · rintro ⟨L, hL, hr⟩ x
      obtain ⟨a, ha, rfl⟩ := List.mem_map.mp hL
      have ha := List.mem_range.mp ha
      split at hr
      · rename_i hp
        obtain ⟨t, ht, rfl⟩ := List.mem_map.mp hr
        have c := (words_iff s (lessC cs a) (less_pos ha h0 hp) (by rw [less_sum ha]; omega) t).mp ht x
        rw [cnt_less ha] at c
        rw [List.count_cons, c]
        by_cases e : x = (a : Nat)
        · subst e
          have : 1 ≤ cnt cs ((a : Nat) : Int) := by
            unfold cnt
            rw [if_pos ⟨by omega, by omega⟩, Int.toNat_natCast]
            omega
          simp
          omega
        · have e2 : ((((a : Nat) : Int)) == x) = false := by simpa using fun z : ((a : Nat) : Int) = x => e z.symm
          rw [e2, if_neg e]
          rfl
      · cases hr
    · intro h
      cases r with
      | nil =>
        have := (cnt_none h0).mpr fun x => (h x).symm
        omega
      | cons y t =>
        have hy := h y
        rw [List.count_cons_self] at hy
        have hin : 0 ≤ y ∧ y < (cs.length : Nat) := by
          by_cases z : 0 ≤ y ∧ y < (cs.length : Nat)
          · exact z
          · unfold cnt at hy
            rw [if_neg z] at hy
            omega
        obtain ⟨a, rfl⟩ : ∃ a : Nat, y = (a : Nat) := ⟨y.toNat, by omega⟩
        have ha : a < cs.length := by omega
        have hp : 0 < cs.getD a 0 := by
          unfold cnt at hy
          rw [if_pos hin, Int.toNat_natCast] at hy
          omega
        refine ⟨_, List.mem_map.mpr ⟨a, List.mem_range.mpr ha, rfl⟩, ?_⟩
        rw [if_pos hp]
        refine List.mem_map.mpr ⟨t, (words_iff s (lessC cs a) (less_pos ha h0 hp) (by rw [less_sum ha]; omega) t).mpr fun x => ?_, rfl⟩
        have hx := h x
        rw [List.count_cons] at hx
        rw [cnt_less ha, ← hx]
        by_cases e : x = (a : Nat)
        · subst e
          simp
        · have e2 : ((((a : Nat) : Int)) == x) = false := by simpa using fun z : ((a : Nat) : Int) = x => e z.symm
          rw [e2, if_neg e]
          rfl
theorem lw_count (cs : List Int) (x : Int) : (lwL cs).count x = cnt cs x := by
  rw [lw_wd]
  unfold cnt
  by_cases h : 0 ≤ x ∧ x < (cs.length : Nat)
  · obtain ⟨j, rfl⟩ : ∃ j : Nat, x = (j : Nat) := ⟨x.toNat, by omega⟩
    rw [wd_count, if_pos (by omega), if_pos h, Int.toNat_natCast]
  · rw [if_neg h]
    exact List.count_eq_zero.mpr fun m => h (wd_in _ cs.length x m)
theorem words_perm {s : Nat} {cs : List Int} (h0 : ∀ c ∈ cs, 0 ≤ c) (hs : cs.sum = (s : Nat)) (r : List Int) : r ∈ wordsN s cs ↔ r.Perm (lwL cs) := by
  rw [words_iff s cs h0 hs, List.perm_iff_count]
  exact ⟨fun h x => by rw [h, lw_count], fun h x => by rw [h, lw_count]⟩
theorem words_least {n : Nat} {ps : List (Int × Int)} (hok : PairsOk (n : Nat) ps) {s : Nat} {cs : List Int} (hl : cs.length = n) (h0 : ∀ c ∈ cs, 0 ≤ c) (hs : cs.sum = (s : Nat)) (r : List Int) :
    r ∈ pcL n ps (lwL cs) ↔ r ∈ (wordsN s cs).map (leastL ps) := by
  have hin : rowIn (n : Nat) (lwL cs) := by rw [lw_wd, hl]; exact wd_in _ n
  rw [(pc_rows hok hin).mem, List.mem_map]
  constructor
  · rintro ⟨h1, h2⟩
    exact ⟨r, (words_perm h0 hs r).mpr h1, h2⟩
  · rintro ⟨u, hu, rfl⟩
    exact ⟨(least_perm ps u).symm.trans ((words_perm h0 hs u).mp hu), least_fix hok u⟩
theorem counts_iff : ∀ (n l : Nat) (c : List Int), c ∈ countsN n l ↔ c.length = n + 1 ∧ (∀ x ∈ c, 0 ≤ x) ∧ c.sum = (l : Nat)
  | 0, l, c => by
    show c ∈ [[(l : Int)]] ↔ _
    rw [List.mem_singleton]
    constructor
    · rintro rfl
      simp
    · rintro ⟨h1, h2, h3⟩
      match c, h1 with
      | [x], _ => simp at h3; rw [h3]
  | n + 1, l, c => by
    show c ∈ ((List.range (l + 1)).map _).flatten ↔ _
    rw [List.mem_flatten]
    constructor
    · rintro ⟨L, hL, hc⟩
      obtain ⟨f, hf, rfl⟩ := List.mem_map.mp hL
      have hf := List.mem_range.mp hf
      obtain ⟨t, ht, rfl⟩ := List.mem_map.mp hc
      obtain ⟨t1, t2, t3⟩ := (counts_iff n (l - f) t).mp ht
      refine ⟨by rw [List.length_cons, t1], fun x hx => ?_, by rw [List.sum_cons, t3]; omega⟩
      rcases List.mem_cons.mp hx with z | z
      · omega
      · exact t2 x z
    · rintro ⟨h1, h2, h3⟩
      match c, h1 with
      | x :: t, h1 =>
        have hx := h2 x List.mem_cons_self
        have ht := (sum_pos0 (cs := t) fun y hy => h2 y (List.mem_cons_of_mem _ hy)).1
        rw [List.sum_cons] at h3
        obtain ⟨f, rfl⟩ : ∃ f : Nat, x = (f : Nat) := ⟨x.toNat, by omega⟩
        exact ⟨_, List.mem_map.mpr ⟨f, List.mem_range.mpr (by omega), rfl⟩, List.mem_map.mpr ⟨t, (counts_iff n (l - f) t).mpr ⟨by simpa using h1, fun y hy => h2 y (List.mem_cons_of_mem _ hy), by omega⟩, rfl⟩⟩
theorem counts_nodup : ∀ n l : Nat, (countsN n l).Nodup
  | 0, l => by
    show [[(l : Int)]].Nodup
    simp
  | n + 1, l => by
    show ((List.range (l + 1)).map _).flatten.Nodup
    rw [List.Nodup, List.pairwise_flatten]
    refine ⟨fun L hL => ?_, ?_⟩
    · obtain ⟨f, _, rfl⟩ := List.mem_map.mp hL
      rw [List.pairwise_map]
      exact (counts_nodup n (l - f)).imp fun h e => h (List.cons.inj e).2
    · rw [List.pairwise_map]
      refine List.pairwise_lt_range.imp fun {a b} h x hx y hy e => ?_
      obtain ⟨t, _, rfl⟩ := List.mem_map.mp hx
      obtain ⟨u, _, rfl⟩ := List.mem_map.mp hy
      have := (List.cons.inj e).1
      omega
theorem sum_parts {α β : Type} (p : β → α → Bool) (C : List β) : ∀ L : List α, (∀ u ∈ L, (C.filter fun c => p c u).length = 1) → (C.map fun c => (L.filter (p c)).length).sum = L.length
  | [], _ => by
    show (C.map fun _ => 0).sum = 0
    induction C with
    | nil => rfl
    | cons c C ih => rw [List.map_cons, List.sum_cons, ih fun u hu => by cases hu]
  | u :: L, h => by
    have ih := sum_parts p C L fun v hv => h v (List.mem_cons_of_mem _ hv)
    have h1 := h u List.mem_cons_self
    have go : ∀ C : List β, (C.map fun c => ((u :: L).filter (p c)).length).sum = (C.filter fun c => p c u).length + (C.map fun c => (L.filter (p c)).length).sum := fun C => by
      induction C with
      | nil => rfl
      | cons c C ih =>
        rw [List.map_cons, List.sum_cons, ih, List.filter_cons, List.filter_cons, List.map_cons, List.sum_cons]
        cases z : p c u with
        | true => simp; omega
        | false => simp; omega
    rw [go, h1, ih, List.length_cons]
    omega
theorem lw_len {cs : List Int} (h0 : ∀ c ∈ cs, 0 ≤ c) {l : Nat} (hs : cs.sum = (l : Nat)) : (lwL cs).length = l := by
  have ex : ∃ r, r ∈ wordsN l cs := ⟨_, (words_perm h0 hs (lwL cs)).mpr (List.Perm.refl _)⟩
  obtain ⟨r, hr⟩ := ex
  rw [← ((words_perm h0 hs r).mp hr).length_eq]
  exact words_mem l cs r hr
theorem counts_sum {n : Nat} {ps : List (Int × Int)} (hok : PairsOk ((n + 1 : Nat) : Int) ps) (l : Nat) : ((countsN n l).map fun c => pcN (n + 1) ps (lwL c)).sum = cnL (n + 1) ps l 0 := by
  have e : (countsN n l).map (fun c => pcN (n + 1) ps (lwL c)) = (countsN n l).map fun c => ((enL (n + 1) ps l 0).filter fun u => u.isPerm (lwL c)).length := List.map_congr_left fun c hc => by
    obtain ⟨_, h2, h3⟩ := (counts_iff n l c).mp hc
    unfold pcN pcL
    rw [lw_len h2 h3]
  rw [e, sum_parts (fun (c : List Int) (u : List Int) => u.isPerm (lwL c)) (countsN n l) (enL (n + 1) ps l 0) (fun u hu => ?_), en_len]
  obtain ⟨u1, u2, _⟩ := ((en_lrows hok l).mem u).mp hu
  let vec : List Int := (List.range (n + 1)).map fun j => ((u.count ((j : Nat) : Int) : Nat) : Int)
  have vl : vec.length = n + 1 := by simp [vec]
  have v0 : ∀ c ∈ vec, 0 ≤ c := fun c hc => by
    obtain ⟨j, _, rfl⟩ := List.mem_map.mp hc
    exact Int.natCast_nonneg _
  have vc : ∀ x, u.count x = cnt vec x := fun x => by
    unfold cnt
    rw [vl]
    by_cases h : 0 ≤ x ∧ x < ((n + 1 : Nat) : Int)
    · obtain ⟨j, rfl⟩ : ∃ j : Nat, x = (j : Nat) := ⟨x.toNat, by omega⟩
      rw [if_pos h, Int.toNat_natCast, List.getD_eq_getElem?_getD, List.getElem?_map, List.getElem?_range (by omega)]
      rfl
    · rw [if_neg h]
      exact List.count_eq_zero.mpr fun m => h (u1 x m)
  have vp : u.Perm (lwL vec) := List.perm_iff_count.mpr fun x => by rw [vc, lw_count]
  have vs : vec.sum = (l : Nat) := by
    obtain ⟨s, hs⟩ : ∃ s : Nat, vec.sum = (s : Nat) := ⟨vec.sum.toNat, by have := (sum_pos0 v0).1; omega⟩
    have := lw_len v0 hs
    rw [← vp.length_eq, u2] at this
    omega
  have one : ∀ c ∈ countsN n l, (u.isPerm (lwL c) = true ↔ c = vec) := fun c hc => by
    obtain ⟨c1, c2, c3⟩ := (counts_iff n l c).mp hc
    rw [List.isPerm_iff]
    constructor
    · intro h
      have hx : ∀ x, cnt c x = cnt vec x := fun x => by rw [← lw_count, ← vc, ← List.perm_iff_count.mp h x]
      refine List.ext_getElem (by rw [c1, vl]) fun j h1 h2 => ?_
      have := hx ((j : Nat) : Int)
      unfold cnt at this
      rw [if_pos ⟨by omega, by omega⟩, if_pos ⟨by omega, by omega⟩, Int.toNat_natCast, List.getD_eq_getElem?_getD, List.getD_eq_getElem?_getD, List.getElem?_eq_getElem h1, List.getElem?_eq_getElem h2] at this
      have p1 := c2 _ (List.getElem_mem h1)
      have p2 := v0 _ (List.getElem_mem h2)
      have this : (c[j]).toNat = (vec[j]).toNat := this
      omega
    · rintro rfl
      exact vp
  have mem : vec ∈ countsN n l := (counts_iff n l vec).mpr ⟨vl, v0, vs⟩
  have ef : (countsN n l).filter (fun c => u.isPerm (lwL c)) = (countsN n l).filter fun c => c == vec := List.filter_congr fun c hc => by
    rw [Bool.eq_iff_iff, one c hc, beq_iff_eq]
  rw [ef, ← List.countP_eq_length_filter]
  have c1 := List.nodup_iff_count.mp (counts_nodup n l) vec
  have c2 := List.count_pos_iff.mpr mem
  exact Nat.le_antisymm c1 c2
end K1
namespace K1
open PySem PySem.Spec PyProof.Rows L2 Pt
section
variable {K : PySem.W.Frag} {C : Addr} {H H' H0 : Hp} {S : List Addr} {G : List (V × PyData)} {σ : L2.St} {Γ : List Ct} {m e i j z : Nat} {p q : Addr} {E' E2 E : XK} {D : Ends} {tu tz : TS} {te ta tb : TE} {c : Ct} {v : V}
theorem q_whenI {R : Int → Prop} {k : Int} (w : Wd K C S G H0 H σ Γ) (h : DrI K C S G H0 σ Γ te R) (h1 : R k → ∀ H1, Wd K C S G H0 H1 σ Γ → tu { D with nx := tz D } σ H1) (h2 : ∀ r, R r → r ≠ k → ∀ H1, Wd K C S G H0 H1 σ Γ → tz D σ H1) :
    tSeq (tIfS (tTest (tOp (rEqD K) te (tC (.int k)))) tu tNext) tz D σ H := by
  refine h H w _ fun r H1 hR w1 => ?_
  refine (show ∀ Q : VK, tOp (rEqD K) (tC (.int r)) (tC (.int k)) σ H1 Q → tC (V.int k) σ H1 (fun y H2 => rEqD K (V.int r) y H2 Q) from fun Q h => h) _ ?_
  refine ev_eqI (K := K) (C := C) (σ := σ) (ta := tC (.int r)) (tb := tC (.int k)) ev_int ev_int H1 (Same.refl H1) _ fun v H2 e2 td => ?_
  refine ⟨decide (r = k), Td.bl_of td, ?_⟩
  by_cases z : r = k
  · subst z
    rw [decide_eq_true rfl]
    exact h1 hR H2 (w1.mono e2)
  · rw [decide_eq_false z]
    exact h2 r hR z H2 (w1.mono e2)
theorem s_retDr {A : List Ag → Prop} {R : List Ag → PyData → Prop} {as : List Ag} {ts : TA} (w : Wd K C S G H0 H σ Γ) (hi : Γ[i]? = some (.h p q)) (hs : EvA K C ts σ H as) (hA : A as) (k : ∀ v d H', R as d → Td K H' v d → D.rt v H') :
    tRet (tCall (spDr K C A R) [] E (tCons (tVar i) ts)) D σ H := dr_call w hi hs hA fun v d H' hR w1 td => k v d H' hR td
theorem q_makeDr {n : Int} (w : Wd K C S G H0 H σ Γ) (hi : Γ[m]? = some (.h p q)) (hn : Γ[e]? = some (.d (.int n))) (h1 : 1 ≤ n) (h6 : n ≤ 6) (k : ∀ ps σ1 H1, PairsOk n ps → Wd K C S G H0 H1 σ1 (Γ.set j (.t n ps)) → tz D σ1 H1) :
    tSeq (tAsg (tMake C (spInit K C) [] E' (tCons (tVar e) (tCons (tCall (spDr K C A_law_pairs R_law_pairs) [] E2 (tCons (tVar m) (tCons (tVar e) tNil))) tNil))) (gName j)) tz D σ H := by
  obtain ⟨v, ev, av⟩ := w.get hn
  refine ⟨v, ev, dr_callF (ts := tCons (tVar e) tNil) w hi (ea_cons (ev_var w hn) ea_nil) ⟨n, rfl, h1, h6⟩ fun v2 d H1 hR keep w1 td => ?_⟩
  obtain ⟨n', ps, e', hok, rfl⟩ := hR
  obtain rfl : n = n' := by
    simp only [List.cons.injEq, Ag.c.injEq, Ct.d.injEq, PyData.int.injEq, and_true] at e'
    exact e'
  have av1 : Td K H1 v (.int n) := keep (.d (.int n)) v rfl av
  exact ev_makeT (σ := σ) (E := E') (ta := tC v) (tb := tC v2) (ev_tc av1) (ev_tc td) h1 h6 hok H1 (Same.refl H1) _ fun v3 H2 e2 a2 => k ps _ H2 hok ((w1.mono e2).set j (c := .t n ps) a2)
theorem q_drC {b n : Int} {ts : TA} (w : Wd K C S G H0 H σ Γ) (hi : Γ[i]? = some (.h p q)) (hij : i ≠ j) (hiz : i ≠ z) (hz : z < Γ.length) (hl : EvA K C ts σ H [.c (.d (.int n))]) (hn : 0 ≤ n ∧ n ≤ 1000) (b1 : 1 ≤ b) (b2 : b ≤ 1000000)
    (k : ∀ (l : List Int) Dl H1, l.length = n.toNat → (∀ x ∈ l, 0 ≤ x ∧ x < b) → Wd K C S G H0 H1 (σ.set z (some (.ref Dl))) (Γ.set z (.l Dl (iL l))) → tz D (σ.set z (some (.ref Dl))) H1) :
    tSeq (tAsg (tLc (iRng1 ts) (gName j) tYes (tCall (spH K C) [] E (tCons (tVar i) (tCons (tC (.int b)) tNil))) [j]) (gName z)) tz D σ H := hl H (Same.refl H) _ fun vs H2 e2 a => by
  obtain ⟨v, rfl, a1⟩ := a.one
  rw [Td.int_of a1]
  refine ⟨n, rfl, by omega, by omega, fun Dl hD => ?_⟩
  have wg : Wd K C S G H0 (L2.upd H2 Dl (.lst [])) (σ.set z (some (.ref Dl))) (Γ.set z (.l Dl (iL []))) := (w.mono e2).setN z (same_new hD) hD ⟨rfl, [], upd_same, .nil⟩
  have at_i : ∀ c, (Γ.set z c)[i]? = some (.h p q) := fun c => by rw [List.getElem?_set_ne (fun e => hiz e.symm)]; exact hi
  have at_z : ∀ c, (Γ.set z c)[z]? = some c := fun c => by rw [List.getElem?_set_self hz]
  refine lc_range (lo := 0) (n := n.toNat) (fun k H' => ∃ l : List Int, Wd K C S G H0 H' (σ.set z (some (.ref Dl))) (Γ.set z (.l Dl (iL l))) ∧ l.length = k ∧ ∀ x ∈ l, 0 ≤ x ∧ x < b) ⟨[], wg, rfl, fun x hx => by cases hx⟩ ?_ ?_
  · rintro k H' hk ⟨l, w3, hl, hx⟩
    show wipe ((wipe σ [j]).set j (some (.int (0 + (k : Int))))) [j] = wipe σ [j] ∧ _
    refine ⟨wipe1 _ j _, ?_⟩
    obtain ⟨vp, ep, ap⟩ := w3.get (at_i _)
    obtain ⟨rfl, ap'⟩ := id ap
    have look : ((wipe σ [j]).set j (some (.int (0 + (k : Int)))))[i]? = some (some (.ref p)) := by
      rw [List.getElem?_set_ne (fun e => hij e.symm), wipe_out (by simpa using hij)]
      rw [List.getElem?_set_ne (fun e => hiz e.symm)] at ep
      exact ep
    refine ⟨.ref p, look, p, q, b, rfl, ap, b1, b2, fun x H3 x0 x1 f3 a3 => ?_⟩
    have w4 := w3.drawn (at_i _) f3 a3
    obtain ⟨vd, ed, ad⟩ := w4.get (at_z _)
    obtain ⟨_, xs, hxs, tx⟩ := ad
    refine ⟨xs, hxs, ?_, l ++ [x], ?_, by simp [hl], fun y my => ?_⟩
    · have := tx.length
      rw [iL_len] at this
      exact Nat.lt_of_lt_of_le (show xs.length < 1001 by omega) (by decide)
    · have w5 := w4.chg (at_z _) (tx.append (.cons (.int x) .nil))
      rw [List.set_set] at w5
      rw [iL_app]
      exact w5
    · rcases List.mem_append.mp my with my | my
      · exact hx y my
      · rw [List.mem_singleton.mp my]; exact ⟨x0, x1⟩
  · rintro H' ⟨l, w3, hl, hx⟩
    exact k l Dl H' hl hx w3
theorem ev_sumL {p : Addr} {ns : List Int} (h : EvC K C te σ H (.l p (iL ns))) : EvC K C (tCB (rSum K) (tCons te tNil)) σ H (.d (.int ns.sum)) := fun H1 e1 Q q => h H1 e1 _ fun v H2 e2 a => by
  obtain ⟨rfl, xs, s, t⟩ := a
  rw [t.iL_of] at s
  exact ⟨p, ns, rfl, SqL.of s, q _ H2 e2 (.int _)⟩
theorem idx_le (l : List Int) (m : Nat) (h : m < l.length) : l.idxOf l[m] ≤ m := by
  induction l generalizing m with
  | nil => cases h
  | cons x l ih =>
    rw [List.idxOf_cons]
    cases m with
    | zero => simp
    | succ m =>
      have := ih m (by simpa using h)
      simp only [List.getElem_cons_succ]
      cases (x == l[m]'(by simpa using h)) with
      | true => simp
      | false => simp; omega
theorem ev_indexI {l : List Int} {r : Int} {p : Addr} (ha : EvC K C ta σ H (.l p (iL l))) (hb : EvC K C tb σ H (.d (.int r))) (hr : r ∈ l) : EvC K C (tBM K "list" (rIndexD K) ta (tCons tb tNil)) σ H (.d (.int (l.idxOf r : Nat))) := fun H1 e1 Q q =>
  ha H1 e1 _ fun v H2 e2 a2 => by
    obtain ⟨rfl, xs, s, t⟩ := a2
    refine ⟨.inl ⟨rfl, xs, SqL.of s⟩, hb H2 (e1.trans e2) _ fun y H3 e3 a3 => ?_⟩
    have hlt := List.idxOf_lt_length_of_mem hr
    refine ⟨p, y, .int r, iL l, l.idxOf r, .int r, rfl, rfl, .lst (SqL.of (e3 _ _ s)) (TdAll.dp _ _ (TdAll.mono (.of e3) _ _ t)), Td.dp _ _ a3, shaped_list l, shaped_int r, ?_, ?_, fun m z' hm hz' => ?_, q _ H3 (e2.trans e3) (.int _)⟩
    · rw [iL_get, List.getElem?_eq_getElem hlt, List.getElem_idxOf]
      rfl
    · rw [eqv_int]; simp
    · have hml : m < l.length := by omega
      rw [iL_get, List.getElem?_eq_getElem hml] at hz'
      have e : z' = .int l[m] := (Option.some.inj hz').symm
      rw [e, eqv_int]
      refine decide_eq_false fun z => ?_
      have h2 : l.idxOf r ≤ m := by
        rw [← z]
        exact idx_le l m hml
      omega
end
theorem less_set {cs : List Int} {a : Nat} (h : a < cs.length) : lessC cs a = cs.set a (cs.getD a 0 - 1) := by
  rw [List.set_eq_take_append_cons_drop, if_pos h]
  unfold lessC
  simp
theorem top_int : ∀ (l : List Int), l ≠ [] → ∃ M ∈ l, ∀ y ∈ l, y ≤ M
  | [], h => absurd rfl h
  | x :: l, _ => by
    by_cases e : l = []
    · subst e
      exact ⟨x, by simp, fun y hy => by rw [List.mem_singleton.mp hy]; exact Int.le_refl _⟩
    · obtain ⟨M, hM, top⟩ := top_int l e
      by_cases c : M ≤ x
      · exact ⟨x, List.mem_cons_self, fun y hy => by
          rcases List.mem_cons.mp hy with z | z
          · rw [z]; exact Int.le_refl _
          · exact Int.le_trans (top y z) c⟩
      · exact ⟨M, List.mem_cons_of_mem _ hM, fun y hy => by
          rcases List.mem_cons.mp hy with z | z
          · rw [z]; omega
          · exact top y z⟩
end K1
namespace K1
open PySem PySem.Spec PyProof.Rows L2 Pt
theorem wd_sorted (f : Nat → Nat) : ∀ t, (wdL f t).Pairwise (· ≤ ·)
  | 0 => by
    unfold wdL
    exact List.Pairwise.nil
  | t + 1 => by
    rw [wd_succ, List.pairwise_append]
    refine ⟨wd_sorted f t, List.pairwise_replicate.mpr (.inr (Int.le_refl _)), fun x hx y hy => ?_⟩
    have h1 := wd_in f t x hx
    have h2 := List.eq_of_mem_replicate hy
    omega
theorem sorted_least : ∀ {w r : List Int}, w.Pairwise (· ≤ ·) → r.Perm w → ¬ r < w
  | [], r, _, p => by
    rw [p.eq_nil]
    exact List.lt_irrefl _
  | x :: w, r, hs, p => by
    obtain ⟨s1, s2⟩ := List.pairwise_cons.mp hs
    cases r with
    | nil => exact absurd p.symm.eq_nil (by simp)
    | cons y r =>
      intro lt
      have hy : x ≤ y := by
        rcases List.mem_cons.mp (p.mem_iff.mp List.mem_cons_self) with z | z
        · omega
        · exact s1 y z
      rcases List.cons_lt_cons_iff.mp lt with z | ⟨z, g⟩
      · omega
      · subst z
        exact sorted_least s2 ((List.perm_cons y).mp p) g
theorem words_min {s : Nat} {cs : List Int} (h0 : ∀ c ∈ cs, 0 ≤ c) (hs : cs.sum = (s : Nat)) : ∃ r L, wordsN s cs = r :: L ∧ minRow r L = lwL cs := by
  have hm : lwL cs ∈ wordsN s cs := (words_perm h0 hs _).mpr (List.Perm.refl _)
  cases e : wordsN s cs with
  | nil => rw [e] at hm; cases hm
  | cons r L =>
    refine ⟨r, L, rfl, ?_⟩
    rw [e] at hm
    have h1 := minRow_le L r (lwL cs) hm
    have h2 := minRow_mem L r
    rw [← e] at h2
    have h3 : ¬ minRow r L < lwL cs := by
      rw [lw_wd]
      exact sorted_least (wd_sorted _ _) (by rw [← lw_wd]; exact (words_perm h0 hs _).mp h2)
    exact List.le_antisymm h1 (List.not_lt.mp h3)
section
variable {K : PySem.W.Frag} {C : Addr} {H H' H0 : Hp} {S : List Addr} {G : List (V × PyData)} {σ : L2.St} {Γ : List Ct} {m e i j z : Nat} {p q : Addr} {E' E2 E : XK} {D : Ends} {tu tz : TS} {te ta tb : TE} {c : Ct} {v : V}
theorem dr_makeDr {n : Int} (w : Wd K C S G H0 H σ Γ) (hi : Γ[m]? = some (.h p q)) (hn : Γ[e]? = some (.d (.int n))) (h1 : 1 ≤ n) (h6 : n ≤ 6) {Q : VK} (k : ∀ ps v3 H2, PairsOk n ps → Wd K C S G H0 H2 σ Γ → CtAt K C H2 v3 (.t n ps) → Q v3 H2) :
    tMake C (spInit K C) [] E' (tCons (tVar e) (tCons (tCall (spDr K C A_law_pairs R_law_pairs) [] E2 (tCons (tVar m) (tCons (tVar e) tNil))) tNil)) σ H Q := by
  obtain ⟨v, ev, av⟩ := w.get hn
  refine ⟨v, ev, dr_callF (ts := tCons (tVar e) tNil) w hi (ea_cons (ev_var w hn) ea_nil) ⟨n, rfl, h1, h6⟩ fun v2 d H1 hR keep w1 td => ?_⟩
  obtain ⟨n', ps, e', hok, rfl⟩ := hR
  obtain rfl : n = n' := by
    simp only [List.cons.injEq, Ag.c.injEq, Ct.d.injEq, PyData.int.injEq, and_true] at e'
    exact e'
  have av1 : Td K H1 v (.int n) := keep (.d (.int n)) v rfl av
  exact ev_makeT (σ := σ) (E := E') (ta := tC v) (tb := tC v2) (ev_tc av1) (ev_tc td) h1 h6 hok H1 (Same.refl H1) Q fun v3 H2 e2 a2 => k ps v3 H2 hok (w1.mono e2) a2
theorem q_anyDr2 {n b : Int} (hi : Γ[m]? = some (.h p q)) (b1 : 1 ≤ b) (b2 : b ≤ 1000000) (ha : ∀ Q : VK, (∀ ps v3 H2, PairsOk n ps → Wd K C S G H0 H2 σ Γ → CtAt K C H2 v3 (.t n ps) → Q v3 H2) → ta σ H Q) (k : ∀ ps (r : Int) σ1 H1, PairsOk n ps → 0 ≤ r → r < b → Wd K C S G H0 H1 σ1 ((Γ.set j (.t n ps)).set z (.d (.int r))) → tz D σ1 H1) :
    tSeq (tAsg (tTupF (tCons ta (tCons (tCall (spH K C) [] E (tCons (tVar m) (tCons (tC (.int b)) tNil))) tNil))) (gTup K 2 (gCons (gName j) (gCons (gName z) gNil)))) tz D σ H :=
  ha _ fun ps v3 H2 hok w2 a2 => dr_nextK w2 hi (tb := tC (.int b)) ev_int b1 b2 (c0 := .t n ps) rfl a2 fun r H3 r0 r1 w3 a3 => by
    refine ⟨by show 2 ≤ sizeLine; decide, fun pt o hp ho => ?_⟩
    have e3 : Same H3 (L2.upd H3 pt (.frz o (.tup [v3, .int r]))) := same_new hp
    exact ⟨pt, [v3, .int r], rfl, SqF.sq ⟨o, upd_same, ho⟩, rfl, v3, _, rfl, .int r, [], rfl, rfl, k ps r _ _ hok r0 r1 (((w3.mono e3).set j (c := .t n ps) (CtAt.mono e3 a3)).set z (c := .d (.int r)) (Td.int r))⟩
theorem q_makeDr2 {n b : Int} (w : Wd K C S G H0 H σ Γ) (hi : Γ[m]? = some (.h p q)) (hn : Γ[e]? = some (.d (.int n))) (h1 : 1 ≤ n) (h6 : n ≤ 6) (b1 : 1 ≤ b) (b2 : b ≤ 1000000) (k : ∀ ps (r : Int) σ1 H1, PairsOk n ps → 0 ≤ r → r < b → Wd K C S G H0 H1 σ1 ((Γ.set j (.t n ps)).set z (.d (.int r))) → tz D σ1 H1) :
    tSeq (tAsg (tTupF (tCons (tMake C (spInit K C) [] E' (tCons (tVar e) (tCons (tCall (spDr K C A_law_pairs R_law_pairs) [] E2 (tCons (tVar m) (tCons (tVar e) tNil))) tNil))) (tCons (tCall (spH K C) [] E (tCons (tVar m) (tCons (tC (.int b)) tNil))) tNil))) (gTup K 2 (gCons (gName j) (gCons (gName z) gNil)))) tz D σ H :=
  q_anyDr2 hi b1 b2 (fun Q hQ => dr_makeDr w hi hn h1 h6 hQ) k
end
end K1
namespace K1
open PySem PySem.Spec PyProof.Rows L2 Pt
theorem acc_on {ps : List (Int × Int)} : ∀ {w : List Int} {f g : Int → Bool}, (∀ x ∈ w, f x = g x) → acc ps f w = acc ps g w
  | [], _, _, _ => rfl
  | a :: w, f, g, h => by
    show (!f a && acc ps _ w) = (!g a && acc ps _ w)
    rw [h a List.mem_cons_self]
    congr 1
    refine acc_on fun x hx => ?_
    unfold nxS
    rw [h x (List.mem_cons_of_mem _ hx)]
def nxB (n : Nat) (ps : List (Int × Int)) (B : List Int) (a : Int) : List Int := (((List.range n).map fun b => ((b : Nat) : Int)).filter fun b => mayL ps a b).filter fun b => decide (b ∈ B) || decide (b < a)
theorem mem_nxB {n : Nat} {ps : List (Int × Int)} (hok : PairsOk (n : Nat) ps) {B : List Int} {a b : Int} (hb : 0 ≤ b ∧ b < (n : Nat)) : decide (b ∈ nxB n ps B a) = ((decide (b ∈ B) || decide (b < a)) && may ps a b) := by
  unfold nxB
  rw [Bool.eq_iff_iff, decide_eq_true_eq, List.mem_filter, List.mem_filter, Bool.and_eq_true, mayL_eq hok]
  have : b ∈ (List.range n).map fun b => ((b : Nat) : Int) := List.mem_map.mpr ⟨b.toNat, List.mem_range.mpr (by omega), by omega⟩
  exact ⟨fun h => ⟨h.2, h.1.2⟩, fun h => ⟨⟨this, h.2⟩, h.1⟩⟩
def fN (ps : List (Int × Int)) (s : Nat) (cs B : List Int) : Nat := ((wordsN s cs).filter (acc ps fun b => decide (b ∈ B))).length
theorem words_in {s : Nat} {cs r : List Int} (h0 : ∀ c ∈ cs, 0 ≤ c) (hs : cs.sum = (s : Nat)) (h : r ∈ wordsN s cs) : rowIn (cs.length : Nat) r := fun x hx => by
  have z := ((words_perm h0 hs r).mp h).mem_iff.mp hx
  rw [lw_wd] at z
  exact wd_in _ cs.length x z
theorem filter_flat {α : Type} (p : α → Bool) (L : List (List α)) : (L.flatten.filter p).length = (L.map fun l => (l.filter p).length).sum := by
  induction L with
  | nil => rfl
  | cons l L ih => rw [List.flatten_cons, List.filter_append, List.length_append, ih, List.map_cons, List.sum_cons]
theorem f_next {n : Nat} {ps : List (Int × Int)} (hok : PairsOk (n : Nat) ps) {s : Nat} {cs : List Int} (hl : cs.length = n) (h0 : ∀ c ∈ cs, 0 ≤ c) (hs : cs.sum = ((s + 1 : Nat) : Int)) (B : List Int) :
    fN ps (s + 1) cs B = ((List.range n).map fun a => if 0 < cs.getD a 0 ∧ ((a : Nat) : Int) ∉ B then fN ps s (lessC cs a) (nxB n ps B (a : Nat)) else 0).sum := by
  unfold fN
  show (((List.range cs.length).map _).flatten.filter _).length = _
  rw [filter_flat, List.map_map, hl]
  congr 1
  refine List.map_congr_left fun a ha => ?_
  have ha := List.mem_range.mp ha
  show ((if 0 < cs.getD a 0 then (wordsN s (lessC cs a)).map fun r => ((a : Nat) : Int) :: r else []).filter _).length = _
  by_cases hp : 0 < cs.getD a 0
  · rw [if_pos hp, List.filter_map, List.length_map]
    have hin : ∀ t ∈ wordsN s (lessC cs a), rowIn (n : Nat) t := fun t ht => by
      have := words_in (less_pos (by omega) h0 hp) (by rw [less_sum (by omega)]; omega) ht
      rwa [less_len (by omega), hl] at this
    by_cases hB : ((a : Nat) : Int) ∈ B
    · rw [if_neg fun z => z.2 hB, List.filter_eq_nil_iff.mpr fun t _ => by
        show ¬ (!decide (((a : Nat) : Int) ∈ B) && acc ps _ t) = true
        rw [decide_eq_true hB]
        simp]
      rfl
    · rw [if_pos ⟨hp, hB⟩]
      congr 1
      refine List.filter_congr fun t ht => ?_
      show (!decide (((a : Nat) : Int) ∈ B) && acc ps _ t) = _
      rw [decide_eq_false hB]
      show acc ps _ t = _
      exact acc_on fun x hx => (mem_nxB hok (hin t ht x hx)).symm
  · rw [if_neg hp, if_neg fun z => hp z.1]
    rfl
theorem words_nodup : ∀ (s : Nat) (cs : List Int), (wordsN s cs).Nodup
  | 0, _ => by
    show [[]].Nodup
    simp
  | s + 1, cs => by
    show ((List.range cs.length).map _).flatten.Nodup
    rw [List.Nodup, List.pairwise_flatten]
    refine ⟨fun L hL => ?_, ?_⟩
    · obtain ⟨a, _, rfl⟩ := List.mem_map.mp hL
      split
      · rw [List.pairwise_map]
        exact (words_nodup s _).imp fun h e => h (List.cons.inj e).2
      · exact List.Pairwise.nil
    · rw [List.pairwise_map]
      refine List.pairwise_lt_range.imp fun {a b} h x hx y hy e => ?_
      split at hx
      · split at hy
        · obtain ⟨t, _, rfl⟩ := List.mem_map.mp hx
          obtain ⟨u, _, rfl⟩ := List.mem_map.mp hy
          have := (List.cons.inj e).1
          omega
        · cases hy
      · cases hx
theorem f_all {n : Nat} {ps : List (Int × Int)} (hok : PairsOk (n : Nat) ps) {s : Nat} {cs : List Int} (hl : cs.length = n) (h0 : ∀ c ∈ cs, 0 ≤ c) (hs : cs.sum = (s : Nat)) : fN ps s cs [] = pcN n ps (lwL cs) := by
  have hin : rowIn (n : Nat) (lwL cs) := by rw [lw_wd, hl]; exact wd_in _ n
  refine ((List.perm_ext_iff_of_nodup ((words_nodup s cs).filter _) (pc_rows hok hin).nd).mpr fun u => ?_).length_eq
  have e : (fun b : Int => decide (b ∈ ([] : List Int))) = fun _ => false := funext fun b => by simp
  rw [List.mem_filter, (pc_rows hok hin).mem, words_perm h0 hs, e, ← least_iff hok]
end K1
namespace K1
open PySem PySem.Spec PyProof.Rows L2 Pt
def wS (g : RR → Int) (en : List EnN) : Int := (en.map fun e => vi e.2.1 * g e.1).sum
def vL (en : List EnN) (r : RR) : Int := ((lookN en r).map vi).getD 0
theorem wS_app (g : RR → Int) (u v : List EnN) : wS g (u ++ v) = wS g u + wS g v := by
  unfold wS
  rw [List.map_append, sum_split]
theorem wS_one (g : RR → Int) (e : EnN) : wS g [e] = vi e.2.1 * g e.1 := by
  unfold wS
  rw [List.map_cons, List.map_nil, List.sum_cons, List.sum_nil, Int.add_zero]
theorem wS_same (g : RR → Int) {r : RR} (v : V) : ∀ {en : List EnN}, r ∉ en.map (·.1) → wS g (en.map fun e => if e.1 = r then (e.1, v, e.2.2) else e) = wS g en
  | [], _ => rfl
  | e :: en, h => by
    rw [List.map_cons, List.mem_cons, not_or] at h
    have ih := wS_same g v h.2
    unfold wS at ih ⊢
    simp only [List.map_cons, List.sum_cons]
    rw [if_neg fun z => h.1 z.symm, ih]
theorem wS_upd (g : RR → Int) {r : RR} (x : Int) : ∀ {en : List EnN}, (en.map (·.1)).Nodup → r ∈ en.map (·.1) → wS g (en.map fun e => if e.1 = r then (e.1, V.int x, e.2.2) else e) = wS g en + (x - vL en r) * g r
  | [], _, h => nomatch h
  | e :: en, nd, h => by
    rw [List.map_cons, List.nodup_cons] at nd
    by_cases z : e.1 = r
    · have hn : r ∉ en.map (·.1) := by rw [← z]; exact nd.1
      have q := wS_same g (V.int x) hn
      have e1 : vL (e :: en) r = vi e.2.1 := by
        unfold vL lookN
        rw [List.find?_cons, decide_eq_true z]
        rfl
      rw [e1]
      unfold wS at q ⊢
      simp only [List.map_cons, List.sum_cons]
      rw [if_pos z, q]
      show x * g e.1 + _ = _
      rw [z, Int.sub_mul]
      omega
    · have hr : r ∈ en.map (·.1) := by
        rcases List.mem_cons.mp h with q | q
        · exact absurd q.symm z
        · exact q
      have ih := wS_upd g x nd.2 hr
      have e1 : vL (e :: en) r = vL en r := by
        unfold vL lookN
        rw [List.find?_cons, decide_eq_false z]
      rw [e1]
      unfold wS at ih ⊢
      simp only [List.map_cons, List.sum_cons]
      rw [if_neg z, ih]
      omega
theorem wS_put (g : RR → Int) (r : RR) (x : Int) (b : Addr) {en : List EnN} (nd : (en.map (·.1)).Nodup) : wS g (putN en r (.int x) b) = wS g en + (x - vL en r) * g r := by
  by_cases h : r ∈ en.map (·.1)
  · have e : putN en r (.int x) b = en.map fun e => if e.1 = r then (e.1, V.int x, e.2.2) else e := by
      unfold putN
      rw [lookN_iff, decide_eq_true h, if_pos rfl]
    rw [e, wS_upd g x nd h]
  · have e1 : vL en r = 0 := by
      have z := lookN_iff en r
      rw [decide_eq_false h] at z
      unfold vL
      rw [Option.isSome_eq_false_iff.mp z |> fun z => Option.isNone_iff_eq_none.mp z]
      rfl
    rw [putN_new h, wS_app, wS_one, e1, Int.sub_zero]
    rfl
def OkS (n s : Nat) (k : RR) : Prop := k.1.length = n ∧ (∀ x ∈ k.1, 0 ≤ x ∧ x ≤ 12) ∧ k.1.sum = (s : Nat) ∧ ∃ p : Int → Bool, k.2 = ((List.range n).map fun b => ((b : Nat) : Int)).filter p
structure OkE (n s : Nat) (en : List EnN) : Prop where
  nd : (en.map (·.1)).Nodup
  ok : ∀ e ∈ en, OkS n s e.1
  it : ∀ e ∈ en, ∃ x : Int, e.2.1 = .int x
theorem look_mem : ∀ {en : List EnN} {e : EnN}, (en.map (·.1)).Nodup → e ∈ en → lookN en e.1 = some e.2.1
  | [], _, _, h => nomatch h
  | t :: en, e, nd, h => by
    rw [List.map_cons, List.nodup_cons] at nd
    unfold lookN
    rw [List.find?_cons]
    rcases List.mem_cons.mp h with rfl | h
    · rw [decide_eq_true rfl]; rfl
    · rw [decide_eq_false fun z => nd.1 (by rw [z]; exact List.mem_map.mpr ⟨e, h, rfl⟩)]
      exact look_mem nd.2 h
theorem OkE.look {n s : Nat} {en : List EnN} (h : OkE n s en) {e : EnN} (m : e ∈ en) : lookN en e.1 = some (.int (vi e.2.1)) := by
  obtain ⟨x, ex⟩ := h.it e m
  rw [look_mem h.nd m, ex]
  rfl
theorem OkE.get {n s : Nat} {en : List EnN} (h : OkE n s en) (r : RR) : (lookN en r).getD (.int 0) = .int (vL en r) := by
  unfold vL
  cases e : lookN en r with
  | none => rfl
  | some v =>
    have e2 := e
    unfold lookN at e2
    obtain ⟨q, hq, eq⟩ := Option.map_eq_some_iff.mp e2
    obtain ⟨x, ex⟩ := h.it q (List.mem_of_find?_eq_some hq)
    have : v = .int x := eq.symm.trans ex
    subst this
    rfl
theorem OkE.nil (n s : Nat) : OkE n s [] := ⟨List.nodup_nil, fun e m => (nomatch m), fun e m => (nomatch m)⟩
theorem OkE.put {n s : Nat} {en : List EnN} (h : OkE n s en) {r : RR} (hr : OkS n s r) (x : Int) (b : Addr) : OkE n s (putN en r (.int x) b) where
  nd := by
    rw [putN_keys]
    split
    · exact h.nd
    · rename_i hn
      exact List.nodup_append.mpr ⟨h.nd, by simp, fun a ha c hc => by
        rw [List.mem_singleton.mp hc]
        exact fun z => hn (z ▸ ha)⟩
  ok := fun e m => by
    rcases mem_putN m with ⟨q, mq, e1, _, _⟩ | rfl
    · rw [e1]; exact h.ok q mq
    · exact hr
  it := fun e m => by
    rcases mem_putN m with ⟨q, mq, _, _, e1 | e1⟩ | rfl
    · rw [e1]; exact h.it q mq
    · exact ⟨x, e1⟩
    · exact ⟨x, rfl⟩
def sbN : Nat → List (List Int)
  | 0 => [[]]
  | n + 1 => sbN n ++ (sbN n).map fun l => l ++ [((n : Nat) : Int)]
theorem sbN_len : ∀ n, (sbN n).length = 2 ^ n
  | 0 => rfl
  | n + 1 => by
    unfold sbN
    rw [List.length_append, List.length_map, sbN_len n, Nat.pow_succ]
    omega
theorem mem_sbN (p : Int → Bool) : ∀ n, (((List.range n).map fun b => ((b : Nat) : Int)).filter p) ∈ sbN n
  | 0 => by simp [sbN]
  | n + 1 => by
    have ih := mem_sbN p n
    unfold sbN
    rw [List.range_succ, List.map_append, List.filter_append, List.mem_append]
    cases h : p ((n : Nat) : Int) with
    | true =>
      right
      rw [List.map_cons, List.map_nil, List.filter_cons, if_pos h, List.filter_nil]
      exact List.mem_map.mpr ⟨_, ih, rfl⟩
    | false =>
      left
      rw [List.map_cons, List.map_nil, List.filter_cons, if_neg (by rw [h]; exact Bool.false_ne_true), List.filter_nil, List.append_nil]
      exact ih
def allS (n : Nat) : List RR := ((allRows 13 n).map fun c => (sbN n).map fun b => (c, b)).flatten
theorem allS_len (n : Nat) : (allS n).length = 13 ^ n * 2 ^ n := by
  unfold allS
  rw [List.length_flatten, List.map_map]
  have e : (allRows 13 n).map (List.length ∘ fun c => (sbN n).map fun b => (c, b)) = List.replicate (13 ^ n) (2 ^ n) := by
    rw [← allRows_len 13 n]
    refine List.eq_replicate_iff.mpr ⟨by rw [List.length_map], fun x hx => ?_⟩
    obtain ⟨c, _, rfl⟩ := List.mem_map.mp hx
    show ((sbN n).map _).length = _
    rw [List.length_map, sbN_len]
  rw [e, List.sum_replicate_nat]
theorem OkE.few {n s : Nat} {en : List EnN} (h : OkE n s en) (n4 : n ≤ 4) : en.length < 1000000 := by
  have z := Pt.nodup_le (en.map (·.1)) (allS n) h.nd fun k m => by
    obtain ⟨e, me, rfl⟩ := List.mem_map.mp m
    obtain ⟨h1, h2, _, p, h4⟩ := h.ok e me
    unfold allS
    refine List.mem_flatten.mpr ⟨_, List.mem_map.mpr ⟨e.1.1, mem_allRows h1 fun x hx => by have := h2 x hx; omega, rfl⟩, List.mem_map.mpr ⟨e.1.2, ?_, rfl⟩⟩
    rw [h4]
    exact mem_sbN p n
  rw [List.length_map, allS_len] at z
  have h1 : 13 ^ n ≤ 13 ^ 4 := Nat.pow_le_pow_right (by decide) n4
  have h2 : 2 ^ n ≤ 2 ^ 4 := Nat.pow_le_pow_right (by decide) n4
  have h3 := Nat.mul_le_mul h1 h2
  have h4 : 13 ^ 4 * 2 ^ 4 < 1000000 := by decide
  omega
def canN (k : RR) (a : Nat) : Bool := decide (0 < k.1.getD a 0) && !decide (((a : Nat) : Int) ∈ k.2)
def nextS (n : Nat) (ps : List (Int × Int)) (k : RR) (a : Nat) : RR := (lessC k.1 a, nxB n ps k.2 (a : Nat))
def gS (ps : List (Int × Int)) (s : Nat) (k : RR) : Int := (fN ps s k.1 k.2 : Nat)
def partS (n : Nat) (ps : List (Int × Int)) (s : Nat) (k : RR) (q : Nat) : Int := (((List.range q).map fun a => if 0 < k.1.getD a 0 ∧ ((a : Nat) : Int) ∉ k.2 then fN ps s (lessC k.1 a) (nxB n ps k.2 (a : Nat)) else 0).sum : Nat)
theorem partS_succ (n : Nat) (ps : List (Int × Int)) (s : Nat) (k : RR) (q : Nat) : partS n ps s k (q + 1) = partS n ps s k q + if canN k q = true then gS ps s (nextS n ps k q) else 0 := by
  unfold partS
  rw [List.range_succ, List.map_append, List.sum_append_nat, Int.natCast_add]
  congr 1
  rw [List.map_cons, List.map_nil, List.sum_cons, List.sum_nil, Nat.add_zero]
  by_cases h : 0 < k.1.getD q 0 ∧ ((q : Nat) : Int) ∉ k.2
  · have c : canN k q = true := by
      unfold canN
      rw [decide_eq_true h.1, decide_eq_false h.2]
      rfl
    rw [if_pos h, if_pos c]
    rfl
  · have c : ¬ canN k q = true := fun z => h (by
      unfold canN at z
      simpa using z)
    rw [if_neg h, if_neg c]
    rfl
theorem partS_all {n : Nat} {ps : List (Int × Int)} (hok : PairsOk (n : Nat) ps) {s : Nat} {k : RR} (h : OkS n (s + 1) k) : partS n ps s k n = gS ps (s + 1) k := by
  obtain ⟨h1, h2, h3, _⟩ := h
  unfold partS gS
  rw [f_next hok h1 (fun c hc => (h2 c hc).1) h3]
theorem next_ok {n : Nat} {ps : List (Int × Int)} {s : Nat} {k : RR} (h : OkS n (s + 1) k) {a : Nat} (ha : a < n) (hc : canN k a = true) : OkS n s (nextS n ps k a) := by
  obtain ⟨h1, h2, h3, _⟩ := h
  have hp : 0 < k.1.getD a 0 := by
    unfold canN at hc
    rw [Bool.and_eq_true] at hc
    exact of_decide_eq_true hc.1
  have hl : a < k.1.length := by omega
  refine ⟨by show (lessC k.1 a).length = n; rw [less_len hl, h1], fun x hx => ⟨less_pos hl (fun c hc => (h2 c hc).1) hp x hx, ?_⟩, by show (lessC k.1 a).sum = _; rw [less_sum hl, h3]; omega, ?_⟩
  · have hx : x ∈ lessC k.1 a := hx
    unfold lessC at hx
    rcases List.mem_append.mp hx with hx | hx
    · rcases List.mem_append.mp hx with hx | hx
      · exact (h2 x (List.mem_of_mem_take hx)).2
      · have := (h2 _ (getD_mem hl)).2
        rw [List.mem_singleton.mp hx]
        omega
    · exact (h2 x (List.mem_of_mem_drop hx)).2
  · refine ⟨fun b => (decide (b ∈ k.2) || decide (b < (a : Nat))) && mayL ps (a : Nat) b, ?_⟩
    show nxB n ps k.2 (a : Nat) = _
    unfold nxB
    rw [List.filter_filter]
end K1
set_option maxRecDepth 10000000
namespace K1
open PySem PySem.Spec PyProof.Rows L2 Pt
local macro_rules
  | `(tactic| walk_at "sz") => `(tactic| first
    | omega
    | decide
    | (simp; omega)
    | (simp [iL, row, pairsD]; omega))
  | `(tactic| walk_at "ea") => `(tactic| first
    | (with_reducible exact ea_nil)
    | ((with_reducible apply ea_consL); (focus (walk_at "ev")); (focus (walk_at "ea")))
    | ((with_reducible apply ea_consS); (focus (walk_at "ev")); (focus (walk_at "ea")))
    | ((with_reducible apply ea_cons); (focus (walk_at "ev")); (focus (walk_at "ea")))
    | ((with_reducible apply ea_consN); (focus (walk_at "en")); (focus (walk_at "ea"))))
  | `(tactic| walk_at "ed") => `(tactic| first
    | (with_reducible exact ed_nil)
    | ((with_reducible apply ed_cons); (focus (walk_at "ev")); (focus (walk_at "ed"))))
  | `(tactic| walk_at "en") => `(tactic| first
    | ((with_reducible apply en_lst); (focus (walk_at "ed")); (focus (simp)))
    | ((with_reducible apply en_listT); (focus (walk_at "ev")))
    | ((with_reducible apply en_addL); (focus (walk_at "ev")); (focus (walk_at "en")); (focus (walk_at "sz")))
    | ((with_reducible apply en_addN); (focus (walk_at "en")); (focus (walk_at "en")); (focus (walk_at "sz")))
    | ((with_reducible apply en_slL); (focus (walk_at "ev")); (focus (walk_at "eo")); (focus (walk_at "eo"))))
  | `(tactic| walk_at "eo") => `(tactic| first
    | (with_reducible exact eo_none)
    | ((with_reducible apply eo_some); (focus (walk_at "ev"))))
  | `(tactic| walk_at "et") => `(tactic| first
    | (with_reducible exact et_yes)
    | ((with_reducible apply et_test); (focus (walk_at "ev")))
    | ((with_reducible apply et_B); (focus (walk_at "ev")))
    | ((with_reducible apply et_truB); (focus (walk_at "ev")))
    | ((with_reducible apply et_truT); (focus (walk_at "ev")))
    | ((with_reducible apply et_not); (focus (walk_at "et")))
    | ((with_reducible apply et_and); (focus (walk_at "et")); (focus (intro _; walk_at "et")))
    | ((with_reducible apply et_or); (focus (walk_at "et")); (focus (intro _; walk_at "et"))))
  | `(tactic| walk_at "var") => `(tactic| first
    | ((with_reducible apply ev_varD); (focus (assumption)); (focus (rfl)))
    | ((with_reducible apply ev_varL); (focus (assumption)); (focus (rfl)))
    | ((with_reducible apply ev_varS); (focus (assumption)); (focus (rfl)))
    | ((with_reducible apply ev_varT); (focus (assumption)); (focus (rfl)))
    | ((with_reducible apply ev_varH); (focus (assumption)); (focus (rfl)))
    | ((with_reducible apply ev_varZ); (focus (assumption)); (focus (rfl))))
  | `(tactic| walk_at "ev") => `(tactic| first
    | walk_at "var"
    | (with_reducible exact ev_int)
    | (with_reducible exact ev_bl)
    | (with_reducible exact ev_str)
    | (with_reducible exact ev_non)
    | ((with_reducible apply ev_letters); (focus (walk_at "ev")))
    | ((with_reducible apply ev_pairs); (focus (walk_at "ev")))
    | ((with_reducible apply ev_addI); (focus (walk_at "ev")); (focus (walk_at "ev")))
    | ((with_reducible apply ev_addT); (focus (walk_at "ev")); (focus (walk_at "ev")); (focus (walk_at "sz")))
    | ((with_reducible apply ev_i0); (focus (walk_at "ev")); (focus (walk_at "ev")); (focus (first | exact fun _ => .int _ | exact fun _ => .bl _)))
    | ((with_reducible apply ev_iC); (focus (walk_at "ev")); (focus (walk_at "ev")); (focus (first | assumption | walk_at "cond")); (focus (exact fun _ => .int _)))
    | ((with_reducible apply ev_chain); (focus (walk_at "ev")); (focus (walk_at "ev")); (focus (walk_at "ev")))
    | ((with_reducible apply ev_eqI); (focus (walk_at "ev")); (focus (walk_at "ev")))
    | ((with_reducible apply ev_neI); (focus (walk_at "ev")); (focus (walk_at "ev")))
    | ((with_reducible apply ev_eqR); (focus (walk_at "ev")); (focus (walk_at "ev")))
    | ((with_reducible apply ev_neR); (focus (walk_at "ev")); (focus (walk_at "ev")))
    | ((with_reducible apply ev_isN); (focus (walk_at "ev")))
    | ((with_reducible apply ev_notN); (focus (walk_at "ev")))
    | ((with_reducible apply ev_in2); (focus (walk_at "ev")); (focus (walk_at "ev")); (focus (walk_at "ev")))
    | ((with_reducible apply ev_inP); (focus (walk_at "ev")); (focus (walk_at "ev")))
    | ((with_reducible apply ev_tup); (focus (walk_at "ed")); (focus (simp)))
    | ((with_reducible apply ev_lenT); (focus (walk_at "ev")))
    | ((with_reducible apply ev_lenL); (focus (walk_at "ev")))
    | ((with_reducible apply ev_lenS); (focus (walk_at "ev")))
    | ((with_reducible apply ev_lenN); (focus (walk_at "en")))
    | ((with_reducible apply ev_max2); (focus (walk_at "ev")); (focus (walk_at "ev")))
    | ((with_reducible apply ev_min2); (focus (walk_at "ev")); (focus (walk_at "ev")))
    | ((with_reducible apply ev_int1); (focus (walk_at "ev")))
    | ((with_reducible apply ev_tupleL); (focus (walk_at "ev")))
    | ((with_reducible apply ev_tupleN); (focus (walk_at "en")))
    | ((with_reducible apply ev_countT); (focus (walk_at "ev")); (focus (walk_at "ev")))
    | ((with_reducible apply ev_andV); (focus (walk_at "ev")); (focus (intro _; walk_at "ev")))
    | ((with_reducible apply ev_orV); (focus (walk_at "ev")); (focus (intro _; walk_at "ev")))
    | ((with_reducible apply ev_notV); (focus (walk_at "ev"))))
theorem prod_le (cs : List Int) (B : Nat) (h : ∀ t, t < cs.length → cAt cs t + 1 ≤ B) : ∀ t, t ≤ cs.length → prodTo cs t ≤ B ^ t
  | 0, _ => Nat.le_refl _
  | t + 1, ht => by
    rw [Nat.pow_succ]
    exact Nat.mul_le_mul (prod_le cs B h t (by omega)) (h t (by omega))
theorem sum_le : ∀ (cs : List Int) (b : Int), (∀ x ∈ cs, x ≤ b) → cs.sum ≤ (cs.length : Int) * b
  | [], b, _ => by simp
  | c :: cs, b, h => by
    have h1 := sum_le cs b fun x hx => h x (List.mem_cons_of_mem _ hx)
    have h2 := h c List.mem_cons_self
    rw [List.sum_cons, List.length_cons, Int.natCast_add, Int.add_mul]
    simp
    omega
theorem wd_len (cs : List Int) : ∀ k, k ≤ cs.length → (∀ x ∈ cs, 0 ≤ x ∧ x ≤ 12) → (wdL (cAt cs) k).length ≤ k * 12
  | 0, _, _ => Nat.zero_le _
  | k + 1, hk, h => by
    have h1 := wd_len cs k (by omega) h
    have h2 := h _ (getD_mem (show k < cs.length by omega))
    rw [wd_succ, List.length_append, List.length_replicate]
    have e : cAt cs k = (cs.getD k 0).toNat := rfl
    omega
section
variable {K : PySem.W.Frag} {C : Addr} {H H' H0 : Hp} {S : List Addr} {G : List (V × PyData)} {σ : L2.St} {Γ : List Ct} {m e i j z : Nat} {p q : Addr} {E' E2 E : XK} {D : Ends} {tu tz : TS} {te ta tb : TE} {c : Ct} {v : V}
theorem q_tupTI {n b : Int} {ps : List (Int × Int)} (w : Wd K C S G H0 H σ Γ) (ha : EvC K C ta σ H (.t n ps)) (hb : ∀ H1, Wd K C S G H0 H1 σ Γ → EvC K C tb σ H1 (.d (.int b))) (k : ∀ σ1 H1, Wd K C S G H0 H1 σ1 ((Γ.set i (.t n ps)).set j (.d (.int b))) → tz D σ1 H1) :
    tSeq (tAsg (tTupF (tCons ta (tCons tb tNil))) (gTup K 2 (gCons (gName i) (gCons (gName j) gNil)))) tz D σ H :=
  ha H (Same.refl H) _ fun v1 H1 e1 a1 => hb H1 (w.mono e1) H1 (Same.refl H1) _ fun v2 H2 e2 a2 => by
    refine ⟨by show 2 ≤ sizeLine; decide, fun pt o hp ho => ?_⟩
    have e3 : Same H2 (L2.upd H2 pt (.frz o (.tup [v1, v2]))) := same_new hp
    exact ⟨pt, [v1, v2], rfl, SqF.sq ⟨o, upd_same, ho⟩, rfl, v1, _, rfl, v2, [], rfl, rfl, k _ _ ((((w.mono e1).mono e2).mono e3).set i (c := .t n ps) (CtAt.mono e3 (CtAt.mono e2 a1)) |>.set j (c := .d (.int b)) (CtAt.mono e3 a2))⟩
theorem q_drT {n b : Int} {ts : TA} (w : Wd K C S G H0 H σ Γ) (hi : Γ[i]? = some (.h p q)) (he : Γ[e]? = some (.d (.int b))) (hij : i ≠ j) (hiz : i ≠ z) (hej : e ≠ j) (hez : e ≠ z) (hz : z < Γ.length) (hl : EvA K C ts σ H [.c (.d (.int n))]) (hn : 0 ≤ n ∧ n ≤ 1000) (b1 : 0 ≤ b) (b2 : b ≤ 1000)
    (k : ∀ (l : List Int) σ1 H1, l.length = n.toNat → (∀ x ∈ l, 0 ≤ x ∧ x ≤ b) → Wd K C S G H0 H1 σ1 (Γ.set z (.d (row l))) → tz D σ1 H1) :
    tSeq (tAsg (tCB (rTupleOf K) (tCons (tLc (iRng1 ts) (gName j) tYes (tCall (spH K C) [] E (tCons (tVar i) (tCons (tOp (rAddU K) (tVar e) (tC (.int 1))) tNil))) [j]) tNil)) (gName z)) tz D σ H := hl H (Same.refl H) _ fun vs H2 e2 a => by
  obtain ⟨v, rfl, a1⟩ := a.one
  rw [Td.int_of a1]
  refine ⟨n, rfl, by omega, by omega, fun Dl hD => ?_⟩
  have wg : Wd K C S G H0 (L2.upd H2 Dl (.lst [])) (σ.set z (some (.ref Dl))) (Γ.set z (.l Dl (iL []))) := (w.mono e2).setN z (same_new hD) hD ⟨rfl, [], upd_same, .nil⟩
  have at_i : ∀ c, (Γ.set z c)[i]? = some (.h p q) := fun c => by rw [List.getElem?_set_ne (fun e => hiz e.symm)]; exact hi
  have at_e : ∀ c, (Γ.set z c)[e]? = some (.d (.int b)) := fun c => by rw [List.getElem?_set_ne (fun e => hez e.symm)]; exact he
  have at_z : ∀ c, (Γ.set z c)[z]? = some c := fun c => by rw [List.getElem?_set_self hz]
  refine lc_range (lo := 0) (n := n.toNat) (fun k H' => ∃ l : List Int, Wd K C S G H0 H' (σ.set z (some (.ref Dl))) (Γ.set z (.l Dl (iL l))) ∧ l.length = k ∧ ∀ x ∈ l, 0 ≤ x ∧ x ≤ b) ⟨[], wg, rfl, fun x hx => by cases hx⟩ ?_ ?_
  · rintro k H' hk ⟨l, w3, hl, hx⟩
    show wipe ((wipe σ [j]).set j (some (.int (0 + (k : Int))))) [j] = wipe σ [j] ∧ _
    refine ⟨wipe1 _ j _, ?_⟩
    obtain ⟨vp, ep, ap⟩ := w3.get (at_i _)
    obtain ⟨rfl, ap'⟩ := id ap
    obtain ⟨vb, eb, ab⟩ := w3.get (at_e _)
    obtain rfl := Td.int_of ab
    have look : ((wipe σ [j]).set j (some (.int (0 + (k : Int)))))[i]? = some (some (.ref p)) := by
      rw [List.getElem?_set_ne (fun e => hij e.symm), wipe_out (by simpa using hij)]
      rw [List.getElem?_set_ne (fun e => hiz e.symm)] at ep
      exact ep
    have look2 : ((wipe σ [j]).set j (some (.int (0 + (k : Int)))))[e]? = some (some (.int b)) := by
      rw [List.getElem?_set_ne (fun e => hej e.symm), wipe_out (by simpa using hej)]
      rw [List.getElem?_set_ne (fun e => hez e.symm)] at eb
      exact eb
    refine ⟨.ref p, look, .int b, look2, ?_⟩
    generalize ((wipe σ [j]).set j (some (.int (0 + (k : Int))))) = σ'
    refine (show ∀ Q : VK, tOp (rAddU K) (tC (.int b)) (tC (.int 1)) σ' H' Q → tC (V.int 1) σ' H' (fun y H2 => rAddU K (V.int b) y H2 Q) from fun Q h => h) _ ?_
    refine ev_addI (K := K) (C := C) (σ := σ') (ta := tC (.int b)) (tb := tC (.int 1)) ev_int ev_int H' (Same.refl H') _ fun v H2 e2 td => ?_
    obtain rfl := Td.int_of td
    have w3' := w3.mono e2
    refine ⟨p, q, b + 1, rfl, CtAt.mono e2 ap, by omega, by omega, fun x H3 x0 x1 f3 a3 => ?_⟩
    have w4 := w3'.drawn (at_i _) f3 a3
    obtain ⟨vd, ed, ad⟩ := w4.get (at_z _)
    obtain ⟨_, xs, hxs, tx⟩ := ad
    refine ⟨xs, hxs, ?_, l ++ [x], ?_, by simp [hl], fun y my => ?_⟩
    · have := tx.length
      rw [iL_len] at this
      exact Nat.lt_of_lt_of_le (show xs.length < 1001 by omega) (by decide)
    · have w5 := w4.chg (at_z _) (tx.append (.cons (.int x) .nil))
      rw [List.set_set] at w5
      rw [iL_app]
      exact w5
    · rcases List.mem_append.mp my with my | my
      · exact hx y my
      · rw [List.mem_singleton.mp my]; exact ⟨x0, by omega⟩
  · rintro H' ⟨l, w3, hl, hx⟩
    obtain ⟨vd, ed, ad⟩ := w3.get (at_z _)
    obtain ⟨_, xs, hxs, tx⟩ := ad
    refine ⟨Dl, xs, rfl, .inl ⟨SqL.of hxs, fun T o hT ho => ?_⟩⟩
    have w4 := w3.mono (same_new (o := .frz o (.tup xs)) hT)
    have w5 := w4.set z (v := .ref T) (c := .d (row l)) (new_t (C := C) hT ho tx)
    rw [List.set_set, List.set_set] at w5
    exact k l _ _ hl hx w5
end
section
variable {P : Program} {w : World} {K : PySem.W.Frag} {mg : Str → Option Value} {base : Heap}
abbrev A_law_many (as : List Ag) (d : PyData) : Prop := ∃ (n : Nat) (ps : List (Int × Int)) (cs : List Int), n ≤ 4 ∧ PairsOk (n : Nat) ps ∧ CsOk n cs ∧ as = [.c (.d (pairsD ps)), .c (.d (row cs))] ∧ d = .int (pcN n ps (lwL cs) : Nat)
abbrev A_law_far (as : List Ag) : Prop := as = []
abbrev R_law_far (as : List Ag) (d : PyData) : Prop := d = .bool true
theorem ok__law_far_of (E : Nv K mg) (many : FnOk P w K mg base CX0 60 E.a__law_many E.d__law_many ["_law_pairs_here", "_law_counts"] (spC K E.C_Trade A_law_many)) : FnOk P w K mg base CX0 70 E.a__law_far E.d__law_far ["_law_h"] (spDr K E.C_Trade A_law_far R_law_far) := by
  refine E.F__law_far.ok sc__law_far (fun vs H Q _ h => ?_) (fun cdv A outer s H vs Q _ hr h => ?_)
  · obtain ⟨p, c, ws, as, rfl, _, ha, rfl, _⟩ := h
    exact congrArg (· + 1) ha.length
  · obtain ⟨p, c, ws, as, rfl, hs, ha, rfl, q⟩ := h
    obtain rfl : ws = [] := List.eq_nil_of_length_eq_zero ha.length
    refine ⟨_, (pss_cons (ps_set (i := 1) sc__law_far.nd rfl (.inl rfl) (pe_op (op_addK K) pe_int (pe_call (ok__law_next E) (hr.mono (by first | decide | omega)) (by rfl) E.m__law_next E.F__law_next.kp E.b__law_next .nil pass0 (pa_cons (pv 0) (pa_cons pe_int pa_nil)))))
      (pss_cons (ps_set (i := 2) sc__law_far.nd rfl (.inl rfl) (pe_call (ok__law_pairs E) (hr.mono (by first | decide | omega)) (by rfl) E.m__law_pairs E.F__law_pairs.kp E.b__law_pairs .nil pass0 (pa_cons (pv 0) (pa_cons (pv 1) pa_nil))))
      (pss_cons (ps_asg (pe_tupF (pa_cons (pe_make E.mk_Trade (ok_Trade___init__ E) (hr.mono (by first | decide | omega)) (by rfl) E.m_Trade E.b_Trade___init__ .nil pass0 (pa_cons (pv 1) (pa_cons (pv 2) pa_nil))) (pa_cons (pe_ix (ix_K K) (pe_lst (pa_cons pe_int (pa_cons pe_int (pa_cons pe_int (pa_cons pe_int pa_nil))))) (pe_op op_sub (pv 1) pe_int) (fun _ _ => rfl)) pa_nil))) (pg_tupK K (n := 2) rfl (pgs_cons (pg_name (i := 3) sc__law_far.nd rfl (.inl rfl)) (pgs_cons (pg_name (i := 4) sc__law_far.nd rfl (.inr rfl)) pgs_nil))))
      (pss_cons (ps_set (i := 5) sc__law_far.nd rfl (.inl rfl) (pe_callTy (call_tupleK K) (by rfl) E.n_tuple (by decide +kernel) (pa_cons (pe_lc (own := [("_law_a", 7)]) (g := gName 7) (by rfl) sc__law_far.nd (pi_range1 (by rfl) E.n_range (pa_cons (pv 1) pa_nil)) (blkOk_by (own := [("_law_a", 7)]) (N := N__law_far) (sc := defScope s__law_far) (by decide +kernel)) (fun _ _ _ _ _ => (pg_name (i := 7) sc__law_far.nd rfl (Or.inl rfl))) (fun _ _ _ _ _ => pts_nil) (fun _ _ _ _ _ => (pe_call (ok__law_next E) (hr.mono (by first | decide | omega)) (by rfl) E.m__law_next E.F__law_next.kp E.b__law_next .nil pass0 (pa_cons (pv 0) (pa_cons (pe_op (op_addK K) (pv 4) pe_int) pa_nil))))) pa_nil)))
      (pss_cons (ps_if (pt_cmpR (op_neK K hr.units) (pe_call (ok_how_many_with E) (hr.mono (by first | decide | omega)) (by rfl) E.m_how_many_with E.F_how_many_with.kp E.b_how_many_with .nil pass0 (pa_cons (pv 3) (pa_cons (pv 5) pa_nil))) (pe_call many (hr.mono (by decide)) (by rfl) E.m__law_many E.F__law_many.kp E.b__law_many .nil pass0 (pa_cons (pv 2) (pa_cons (pv 5) pa_nil))) (nomark _)) (pss_one (ps_ret pe_bl)) pss_nil)
      (pss_cons (ps_if (pt_cmpR (op_gt) (pe_callB (cr_sumTK K rfl) (by rfl) E.n_sum (by decide +kernel) (pa_cons (pv 5) pa_nil)) pe_int (nomark _)) (pss_one (ps_ret pe_bl)) pss_nil)
      (pss_cons (ps_set (i := 6) sc__law_far.nd rfl (.inl rfl) (pe_tupF pa_nil))
      (pss_cons (ps_for PassesOwn.never rfl (pi_range1 (by rfl) E.n_range (pa_cons (pv 1) pa_nil)) (pg_name (i := 7) sc__law_far.nd rfl (.inl rfl))
      (pss_one (ps_set (i := 6) sc__law_far.nd rfl (.inl rfl) (pe_op (op_addK K) (pv 6) (pe_op (op_repFK K) (pe_tupF (pa_cons (pv 7) pa_nil)) (pe_ix (ix_K K) (pv 5) (pv 7) (fun _ _ => rfl)))))))
      (pss_one (ps_ret (pe_cmpR (op_eqK K hr.units) (pe_call (ok_least_with E) (hr.mono (by first | decide | omega)) (by rfl) E.m_least_with E.F_least_with.kp E.b_least_with .nil pass0 (pa_cons (pv 3) (pa_cons (pv 5) pa_nil))) (pv 6) (nomark _)))))))))))), ?_⟩
    have w0 : Wd K E.C_Trade [p, c] [] H H [some (.ref p), none, none, none, none, none, none, none] [.h p c, .u, .u, .u, .u, .u, .u, .u] := Wd.startH (N := N__law_far) (vs := []) (cs := []) ⟨hs, True.intro⟩ rfl (Nat.le_of_ble_eq_true rfl)
    refine q_drawAdd w0 rfl (by decide) (by decide) fun r σ1 H1 r0 r1 w1 => ?_
    generalize hn : 1 + r = ni at w1
    obtain ⟨n, rfl⟩ : ∃ n : Nat, ni = (n : Int) := ⟨ni.toNat, by omega⟩
    have n4 : n ≤ 4 := by omega
    have n1 : 1 ≤ n := by omega
    refine q_drawA w1 rfl (as := [.c (.d (.int (n : Nat)))]) (ea_cons (ev_var w1 rfl) ea_nil) ⟨n, rfl, by omega, by omega⟩ fun d σ2 H2 hR w2 => ?_
    obtain ⟨n', ps, e, hok, rfl⟩ := hR
    obtain rfl : (n : Int) = n' := by
      simp only [List.cons.injEq, Ag.c.injEq, Ct.d.injEq, PyData.int.injEq, and_true] at e
      exact e
    have w2' : Wd K E.C_Trade [p, c] [] H H2 σ2 [.h p c, .d (.int (n : Nat)), .d (pairsD ps), .u, .u, .u, .u, .u] := w2
    obtain ⟨b, hb, hat⟩ : ∃ b : Nat, (b ≤ 12 ∧ (n = 4 → b ≤ 5)) ∧ atI (iL [12, 12, 12, 5]) ((n : Int) - 1) = some (.int (b : Nat)) := by
      rcases (by omega : n = 1 ∨ n = 2 ∨ n = 3 ∨ n = 4) with rfl | rfl | rfl | rfl
      · exact ⟨12, ⟨by decide, fun z => by cases z⟩, rfl⟩
      · exact ⟨12, ⟨by decide, fun z => by cases z⟩, rfl⟩
      · exact ⟨12, ⟨by decide, fun z => by cases z⟩, rfl⟩
      · exact ⟨5, ⟨by decide, fun _ => by decide⟩, rfl⟩
    refine q_tupTI (i := 3) (j := 4) w2' (n := (n : Nat)) (ps := ps) (ev_makeT (ev_var (i := 1) w2' rfl) (ev_var (i := 2) w2' rfl) (by omega) (by omega) hok) (b := (b : Nat)) (fun H1 w1 => ev_ixN (ds := iL [12, 12, 12, 5]) (en_lst (ed_cons ev_int (ed_cons ev_int (ed_cons ev_int (ed_cons ev_int ed_nil)))) (Nat.le_of_ble_eq_true rfl)) (ev_i0 (ev_var (i := 1) w1 rfl) ev_int (fun _ => .int _)) hat) fun σ3 H3 w3 => ?_
    have w3' : Wd K E.C_Trade [p, c] [] H H3 σ3 [.h p c, .d (.int (n : Nat)), .d (pairsD ps), .t (n : Nat) ps, .d (.int (b : Nat)), .u, .u, .u] := w3
    refine q_drT (z := 5) (i := 0) (j := 7) (e := 4) w3' rfl rfl (by decide) (by decide) (by decide) (by decide) (by show 5 < 8; decide) (ea_cons (ev_var (i := 1) w3' rfl) ea_nil) (by omega) (by omega) (by omega) fun cs σ4 H4 hl hx w4 => ?_
    rw [Int.toNat_natCast] at hl
    have w4' : Wd K E.C_Trade [p, c] [] H H4 σ4 [.h p c, .d (.int (n : Nat)), .d (pairsD ps), .t (n : Nat) ps, .d (.int (b : Nat)), .d (row cs), .u, .u] := w4
    have h0 : ∀ x ∈ cs, 0 ≤ x := fun x h => (hx x h).1
    have sm := sum_le cs (b : Nat) fun x h => (hx x h).2
    have s36 : cs.sum ≤ 36 := by
      rcases (by omega : n ≤ 3 ∨ n = 4) with z | z
      · have : (cs.length : Int) * (b : Nat) ≤ 3 * 12 := by
          have := Nat.mul_le_mul (show cs.length ≤ 3 by omega) hb.1
          exact_mod_cast this
        omega
      · have := hb.2 z
        have : (cs.length : Int) * (b : Nat) ≤ 4 * 5 := by
          have := Nat.mul_le_mul (show cs.length ≤ 4 by omega) this
          exact_mod_cast this
        omega
    have cso : CsOk n cs := ⟨hl, fun x h => by have := hx x h; omega, by omega⟩
    have pr : prodTo cs cs.length ≤ 10000 := by
      rcases (by omega : n ≤ 3 ∨ n = 4) with z | z
      · refine Nat.le_trans (prod_le cs 13 (fun t ht => ?_) _ (Nat.le_refl _)) (Nat.le_trans (Nat.pow_le_pow_right (by decide) (show cs.length ≤ 3 by omega)) (by decide))
        have := hx _ (getD_mem ht)
        unfold cAt
        omega
      · refine Nat.le_trans (prod_le cs 6 (fun t ht => ?_) _ (Nat.le_refl _)) (Nat.le_trans (Nat.pow_le_pow_right (by decide) (show cs.length ≤ 4 by omega)) (by decide))
        have := hx _ (getD_mem ht)
        have := hb.2 z
        unfold cAt
        omega
    refine s_when w4' (b := false) (et_cast (et_test (ev_neI (ev_call (ea_cons (ev_var (i := 3) w4' rfl) (ea_cons (ev_var (i := 5) w4' rfl) ea_nil)) ⟨n, ps, cs, by omega, cso, pr, hw_ok ps cso, rfl, rfl⟩) (ev_call (ea_cons (ev_var (i := 2) w4' rfl) (ea_cons (ev_var (i := 5) w4' rfl) ea_nil)) ⟨n, ps, cs, n4, hok, cso, rfl, rfl⟩))) (by rw [hw_count hok hl]; simp)) (fun z => by cases z) (fun _ H5 w5 => ?_)
    refine s_when w5 (b := decide (20 < cs.sum)) (et_test (ev_i0 (ev_sumT (ev_var (i := 5) w5 rfl)) ev_int (fun _ => .bl _))) (fun y H6 w6 => ?_) (fun y H6 w6 => ?_)
    · refine s_ret w6 (c := .d (.bool true)) ev_bl fun v Hk wk ak => ?_
      obtain ⟨vp, ep, ap⟩ := wk.get (i := 0) rfl
      obtain ⟨rfl, ap'⟩ := id ap
      exact q v _ Hk rfl wk.fr ap ak
    · have y := of_decide_eq_false y
      refine q_asgD w6 (d := row (wdL (cAt cs) 0)) (ev_d (ev_tup ed_nil (Nat.zero_le _)) rfl) fun σ7 H7 w7 => ?_
      have w7' : Wd K E.C_Trade [p, c] [] H H7 σ7 [.h p c, .d (.int (n : Nat)), .d (pairsD ps), .t (n : Nat) ps, .d (.int (b : Nat)), .d (row cs), .d (row (wdL (cAt cs) 0)), .u] := w7
      refine q_forR1 w7' (n := (n : Nat)) (ea_cons (ev_var (i := 1) w7' rfl) ea_nil) (by omega) (fun k σ H' => ∃ c7, Wd K E.C_Trade [p, c] [] H H' σ [.h p c, .d (.int (n : Nat)), .d (pairsD ps), .t (n : Nat) ps, .d (.int (b : Nat)), .d (row cs), .d (row (wdL (cAt cs) k)), c7]) (fun H8 w8 => ⟨_, w8⟩) ?_ ?_
      · rintro k σ H' hk ⟨c7, w8⟩
        have hk : k < cs.length := by omega
        have w9 : Wd K E.C_Trade [p, c] [] H H' _ [.h p c, .d (.int (n : Nat)), .d (pairsD ps), .t (n : Nat) ps, .d (.int (b : Nat)), .d (row cs), .d (row (wdL (cAt cs) k)), .d (.int (k : Nat))] := w8.set 7 (v := .int (k : Nat)) (c := .d (.int (k : Nat))) (Td.int _)
        have hat : atI (iL cs) ((k : Nat) : Int) = some (.int (cs.getD k 0)) := atI_nat (by
          unfold iL
          rw [List.getElem?_map, List.getElem?_eq_getElem hk, List.getD_eq_getElem?_getD, List.getElem?_eq_getElem hk]
          rfl)
        have hc := hx _ (getD_mem hk)
        have wl := wd_len cs k
        refine s_asgD w9 (d := row (wdL (cAt cs) (k + 1))) (ev_d (ev_addT (ev_var (i := 6) w9 rfl) (ev_repT (k := cs.getD k 0) (ev_tup (ed_cons (ev_var (i := 7) w9 rfl) ed_nil)) (ev_ixT (ev_var (i := 5) w9 rfl) (ev_var (i := 7) w9 rfl) hat) (by omega) (by omega) ?_) ?_) ?_) fun σa Ha wa => ⟨_, wa⟩
        · first | (simp; done) | (simp; omega) | omega
        · rw [iL_len]
          have wl := wl (by omega) fun x h => by have := hx x h; omega
          have e2 : ∀ m : Nat, (List.replicate m [PyData.int ((k : Nat) : Int)]).flatten.length = m := fun m => by
            induction m with
            | zero => rfl
            | succ m ih => rw [List.replicate_succ, List.flatten_cons, List.length_append, ih]; simp; omega
          rw [e2]
          omega
        · rw [wd_succ, row, iL_app]
          congr 1
          congr 1
          unfold cAt
          have rp : ∀ m : Nat, (List.replicate m [PyData.int ((k : Nat) : Int)]).flatten = iL (List.replicate m ((k : Nat) : Int)) := fun m => by
            induction m with
            | zero => rfl
            | succ m ih => rw [List.replicate_succ, List.flatten_cons, ih, List.replicate_succ]; rfl
          exact rp _
      · rintro σ H' ⟨c7, w8⟩
        rw [Int.toNat_natCast, ← hl, ← lw_wd] at w8
        refine s_ret w8 (c := .d (.bool true)) (ev_d (ev_eqR (k := lwL cs) (j := lwL cs) (ev_call (ea_cons (ev_var (i := 3) w8 rfl) (ea_cons (ev_var (i := 5) w8 rfl) ea_nil)) ⟨n, ps, cs, by omega, cso, by omega, by rw [hl], rfl⟩) (ev_var (i := 6) w8 rfl)) (by simp)) fun v Hk wk ak => ?_
        obtain ⟨vp, ep, ap⟩ := wk.get (i := 0) rfl
        obtain ⟨rfl, ap'⟩ := id ap
        exact q v _ Hk rfl wk.fr ap ak
end
end K1
set_option maxRecDepth 10000000
theorem L2.hu8_of {k : Nat} {A : PySem.Around} (r : L2.Room k A) : A.in1.units + 8 < PySem.cLine := by
  have := r.un
  show A.units + 1 + 8 < PySem.cLine
  omega
theorem L2.Room.units8 {k : Nat} {A : PySem.Around} (r : L2.Room k A) : A.units + 8 < PySem.cLine := by have := r.un; omega
namespace K1
open PySem PySem.Spec PyProof.Rows L2 Pt
local macro_rules
  | `(tactic| walk_at "sz") => `(tactic| first
    | omega
    | decide
    | (simp; omega)
    | (simp [iL, row, pairsD]; omega))
  | `(tactic| walk_at "ea") => `(tactic| first
    | (with_reducible exact ea_nil)
    | ((with_reducible apply ea_consL); (focus (walk_at "ev")); (focus (walk_at "ea")))
    | ((with_reducible apply ea_consS); (focus (walk_at "ev")); (focus (walk_at "ea")))
    | ((with_reducible apply ea_cons); (focus (walk_at "ev")); (focus (walk_at "ea")))
    | ((with_reducible apply ea_consN); (focus (walk_at "en")); (focus (walk_at "ea"))))
  | `(tactic| walk_at "ed") => `(tactic| first
    | (with_reducible exact ed_nil)
    | ((with_reducible apply ed_cons); (focus (walk_at "ev")); (focus (walk_at "ed"))))
  | `(tactic| walk_at "en") => `(tactic| first
    | ((with_reducible apply en_lst); (focus (walk_at "ed")); (focus (simp)))
    | ((with_reducible apply en_listT); (focus (walk_at "ev")))
    | ((with_reducible apply en_addL); (focus (walk_at "ev")); (focus (walk_at "en")); (focus (walk_at "sz")))
    | ((with_reducible apply en_addN); (focus (walk_at "en")); (focus (walk_at "en")); (focus (walk_at "sz")))
    | ((with_reducible apply en_slL); (focus (walk_at "ev")); (focus (walk_at "eo")); (focus (walk_at "eo"))))
  | `(tactic| walk_at "eo") => `(tactic| first
    | (with_reducible exact eo_none)
    | ((with_reducible apply eo_some); (focus (walk_at "ev"))))
  | `(tactic| walk_at "et") => `(tactic| first
    | (with_reducible exact et_yes)
    | ((with_reducible apply et_test); (focus (walk_at "ev")))
    | ((with_reducible apply et_B); (focus (walk_at "ev")))
    | ((with_reducible apply et_truB); (focus (walk_at "ev")))
    | ((with_reducible apply et_truT); (focus (walk_at "ev")))
    | ((with_reducible apply et_not); (focus (walk_at "et")))
    | ((with_reducible apply et_and); (focus (walk_at "et")); (focus (intro _; walk_at "et")))
    | ((with_reducible apply et_or); (focus (walk_at "et")); (focus (intro _; walk_at "et"))))
  | `(tactic| walk_at "var") => `(tactic| first
    | ((with_reducible apply ev_varD); (focus (assumption)); (focus (rfl)))
    | ((with_reducible apply ev_varL); (focus (assumption)); (focus (rfl)))
    | ((with_reducible apply ev_varS); (focus (assumption)); (focus (rfl)))
    | ((with_reducible apply ev_varT); (focus (assumption)); (focus (rfl)))
    | ((with_reducible apply ev_varH); (focus (assumption)); (focus (rfl)))
    | ((with_reducible apply ev_varZ); (focus (assumption)); (focus (rfl))))
  | `(tactic| walk_at "ev") => `(tactic| first
    | walk_at "var"
    | (with_reducible exact ev_int)
    | (with_reducible exact ev_bl)
    | (with_reducible exact ev_str)
    | (with_reducible exact ev_non)
    | ((with_reducible apply ev_letters); (focus (walk_at "ev")))
    | ((with_reducible apply ev_pairs); (focus (walk_at "ev")))
    | ((with_reducible apply ev_addI); (focus (walk_at "ev")); (focus (walk_at "ev")))
    | ((with_reducible apply ev_addT); (focus (walk_at "ev")); (focus (walk_at "ev")); (focus (walk_at "sz")))
    | ((with_reducible apply ev_i0); (focus (walk_at "ev")); (focus (walk_at "ev")); (focus (first | exact fun _ => .int _ | exact fun _ => .bl _)))
    | ((with_reducible apply ev_iC); (focus (walk_at "ev")); (focus (walk_at "ev")); (focus (first | assumption | walk_at "cond")); (focus (exact fun _ => .int _)))
    | ((with_reducible apply ev_chain); (focus (walk_at "ev")); (focus (walk_at "ev")); (focus (walk_at "ev")))
    | ((with_reducible apply ev_eqI); (focus (walk_at "ev")); (focus (walk_at "ev")))
    | ((with_reducible apply ev_neI); (focus (walk_at "ev")); (focus (walk_at "ev")))
    | ((with_reducible apply ev_eqR); (focus (walk_at "ev")); (focus (walk_at "ev")))
    | ((with_reducible apply ev_neR); (focus (walk_at "ev")); (focus (walk_at "ev")))
    | ((with_reducible apply ev_isN); (focus (walk_at "ev")))
    | ((with_reducible apply ev_notN); (focus (walk_at "ev")))
    | ((with_reducible apply ev_in2); (focus (walk_at "ev")); (focus (walk_at "ev")); (focus (walk_at "ev")))
    | ((with_reducible apply ev_inP); (focus (walk_at "ev")); (focus (walk_at "ev")))
    | ((with_reducible apply ev_tup); (focus (walk_at "ed")); (focus (simp)))
    | ((with_reducible apply ev_lenT); (focus (walk_at "ev")))
    | ((with_reducible apply ev_lenL); (focus (walk_at "ev")))
    | ((with_reducible apply ev_lenS); (focus (walk_at "ev")))
    | ((with_reducible apply ev_lenN); (focus (walk_at "en")))
    | ((with_reducible apply ev_max2); (focus (walk_at "ev")); (focus (walk_at "ev")))
    | ((with_reducible apply ev_min2); (focus (walk_at "ev")); (focus (walk_at "ev")))
    | ((with_reducible apply ev_int1); (focus (walk_at "ev")))
    | ((with_reducible apply ev_tupleL); (focus (walk_at "ev")))
    | ((with_reducible apply ev_tupleN); (focus (walk_at "en")))
    | ((with_reducible apply ev_countT); (focus (walk_at "ev")); (focus (walk_at "ev")))
    | ((with_reducible apply ev_andV); (focus (walk_at "ev")); (focus (intro _; walk_at "ev")))
    | ((with_reducible apply ev_orV); (focus (walk_at "ev")); (focus (intro _; walk_at "ev")))
    | ((with_reducible apply ev_notV); (focus (walk_at "ev"))))
theorem sum_nn : ∀ (l : List Int), (∀ x ∈ l, 0 ≤ x) → 0 ≤ l.sum
  | [], _ => by simp
  | c :: l, h => by
    have h1 := sum_nn l fun x hx => h x (List.mem_cons_of_mem _ hx)
    have h2 := h c List.mem_cons_self
    rw [List.sum_cons]
    omega
section
variable {P : Program} {w : World} {K : PySem.W.Frag} {mg : Str → Option Value} {base : Heap}
theorem ok__law_many (E : Nv K mg) : FnOk P w K mg base CX0 60 E.a__law_many E.d__law_many ["_law_pairs_here", "_law_counts"] (spC K E.C_Trade A_law_many) := by
  refine E.F__law_many.ok sc__law_many (fun vs H Q _ h => ?_) (fun cdv A outer s H vs Q _ hr h => ?_)
  · obtain ⟨as, d, ha, ⟨_, _, _, _, _, _, rfl, _⟩, _⟩ := h
    exact ha.length
  · obtain ⟨as, d, ha, ⟨n, ps, cs, n4, hok, cso, rfl, rfl⟩, q⟩ := h
    obtain ⟨v1, v2, rfl, a1, a2⟩ := ha.two
    refine ⟨_, (pss_cons (ps_asg (pe_tupF (pa_cons (pe_dispNK P w hr.units8 (pe_tupF (pa_cons (pv 1) (pa_cons (pe_tupF pa_nil) pa_nil))) pe_int) (pa_cons (pe_listRg rfl (by rfl) E.n_list (prg_1 (by rfl) E.n_range (pe_callB (call_lenK K) (by rfl) E.n_len (by decide +kernel) (pa_cons (pv 1) pa_nil)))) pa_nil))) (pg_tupK K (n := 2) rfl (pgs_cons (pg_name (i := 2) sc__law_many.nd rfl (.inr rfl)) (pgs_cons (pg_name (i := 3) sc__law_many.nd rfl (.inl rfl)) pgs_nil))))
      (pss_cons (ps_for PassesOwn.never rfl (pi_range1 (by rfl) E.n_range (pa_cons (pe_callB (cr_sumTK K rfl) (by rfl) E.n_sum (by decide +kernel) (pa_cons (pv 1) pa_nil)) pa_nil)) (pg_name (i := 4) sc__law_many.nd rfl (.inl rfl))
      (pss_cons (ps_set (i := 5) sc__law_many.nd rfl (.inl rfl) (pe_dnewNK P w))
      (pss_cons (ps_for PassesOwn.never rfl (pi_keysNK P w (pv 2)) (pg_tupK K (n := 2) rfl (pgs_cons (pg_name (i := 6) sc__law_many.nd rfl (.inl rfl)) (pgs_cons (pg_name (i := 7) sc__law_many.nd rfl (.inr rfl)) pgs_nil)))
      (pss_one (ps_for PassesOwn.never rfl (pi_listK K (pv 3)) (pg_name (i := 8) sc__law_many.nd rfl (.inr rfl))
      (pss_one (ps_if (PW.pt (pw_and (pt_cmpR (op_gt) (pe_ix (ix_K K) (pv 6) (pv 8) (fun _ _ => rfl)) pe_int (nomark _)) (pw_and1 (pt_cmpR (op_notInK K) (pv 8) (pv 7) (by with_unfolding_all rfl))))) (pss_cons (ps_set (i := 9) sc__law_many.nd rfl (.inl rfl) (pe_op (op_addK K) (pe_op (op_addK K) (pe_slice (sl_K K) (pv 6) po_none (po_some (pv 8))) (pe_tupF (pa_cons (pe_op op_sub (pe_ix (ix_K K) (pv 6) (pv 8) (fun _ _ => rfl)) pe_int) pa_nil))) (pe_slice (sl_K K) (pv 6) (po_some (pe_op (op_addK K) (pv 8) pe_int)) po_none)))
      (pss_cons (ps_setLc (i := 10) (own := [("_law_b", 12)]) (g := gName 12) rfl sc__law_many.nd rfl rfl (sw_true rfl rfl rfl (by decide +kernel)) (pi_listK K (pv 3)) (blkOk_by (own := [("_law_b", 12)]) (N := N__law_many) (sc := defScope s__law_many) (by decide +kernel)) (fun _ _ _ _ _ => (pg_name (i := 12) sc__law_many.nd rfl (Or.inl rfl))) (fun _ _ _ _ _ => (pts_one (pt_truK K (pe_call (ok__law_may E) (hr.mono (by first | decide | omega)) (by rfl) E.m__law_may E.F__law_may.kp E.b__law_may .nil pass0 (pa_cons (pv 0) (pa_cons (pv 8) (pa_cons (pv 12) pa_nil)))) (fun _ => rfl)))) (fun _ _ _ _ _ => (pv 12)))
      (pss_cons (ps_set (i := 11) sc__law_many.nd rfl (.inl rfl) (pe_tupF (pa_cons (pv 9) (pa_cons (pe_callTy (call_tupleK K) (by rfl) E.n_tuple (by decide +kernel) (pa_cons (pe_lc (own := [("_law_b", 12)]) (g := gName 12) (by rfl) sc__law_many.nd (pi_listK K (pv 10)) (blkOk_by (own := [("_law_b", 12)]) (N := N__law_many) (sc := defScope s__law_many) (by decide +kernel)) (fun _ _ _ _ _ => (pg_name (i := 12) sc__law_many.nd rfl (Or.inl rfl))) (fun _ _ _ _ _ => (pts_one (PW.pt (pw_or (pt_cmpR (op_inK K) (pv 12) (pv 7) (by with_unfolding_all rfl)) (pw_or1 (pt_cmpR (op_lt) (pv 12) (pv 8) (nomark _))))))) (fun _ _ _ _ _ => (pv 12))) pa_nil)) pa_nil))))
      (pss_one (ps_dputNK P w (hu8_of hr) (pv 5) (pv 11) (pe_op (op_addK K) (pe_bmN P w PySem.F.plainAttrs_dict PySem.F.slot_dict_get PySem.F.type_dict_get (mt_getNK P w (hu8_of hr)) (pv 5) (pa_cons (pv 11) (pa_cons pe_int pa_nil))) (pe_dgetEK P w (hu8_of hr) (pv 2) (pe_tupF (pa_cons (pv 6) (pa_cons (pv 7) pa_nil))) (fun _ _ => rfl))) rfl))))) pss_nil)))))
      (pss_one (ps_set (i := 2) sc__law_many.nd rfl (.inr rfl) (pv 5))))))
      (pss_one (ps_ret (pe_callB (cr_sumK K rfl) (by rfl) E.n_sum (by decide +kernel) (pa_cons (pe_lc (own := [("_law_key", 11)]) (g := gName 11) (by rfl) sc__law_many.nd (pi_keysNK P w (pv 2)) (blkOk_by (own := [("_law_key", 11)]) (N := N__law_many) (sc := defScope s__law_many) (by decide +kernel)) (fun _ _ _ _ _ => (pg_name (i := 11) sc__law_many.nd rfl (Or.inl rfl))) (fun _ _ _ _ _ => pts_nil) (fun _ _ _ _ _ => (pe_dgetEK P w (hu8_of hr) (pv 2) (pv 11) (fun _ _ => rfl)))) pa_nil)))))), ?_⟩
    have h0 : ∀ x ∈ cs, 0 ≤ x := fun x h => (cso.few x h).1
    have hl := cso.len
    have sum0 : 0 ≤ cs.sum := sum_nn cs h0
    have sum40 := cso.sum
    obtain ⟨S, hS⟩ : ∃ S : Nat, cs.sum = (S : Nat) := ⟨cs.sum.toNat, by omega⟩
    have w0 : Wd K E.C_Trade [] [] H H _ [.d (pairsD ps), .d (row cs), .u, .u, .u, .u, .u, .u, .u, .u, .u, .u, .u] := Wd.start2 (N := N__law_many) a1 a2
    refine q_tupDN (i := 2) (j := 3) (r := (cs, [])) (x := 1) (n := (cs.length : Nat)) w0 (ev_tup (ed_cons (ev_var (i := 1) w0 rfl) (ed_cons (ev_d (e := row []) (ev_tup ed_nil) rfl) ed_nil))) (fun H1 w1 => ev_d (ev_lenT (ev_var (i := 1) w1 rfl)) (by rw [iL_len])) ⟨by omega, by omega⟩ (by decide) fun f b ks p σ1 H1 kn w1 => ?_
    have eL : ((List.range ((cs.length : Nat) : Int).toNat).map fun a => PyData.int ((a : Nat) : Int)) = iL ((List.range n).map fun b => ((b : Nat) : Int)) := by
      rw [Int.toNat_natCast, hl]
      unfold iL
      rw [List.map_map]
      rfl
    rw [eL] at w1
    generalize hLL : ((List.range n).map fun b => ((b : Nat) : Int)) = LL at w1
    have w1' : Wd K E.C_Trade [] [] H H1 σ1 [.d (pairsD ps), .d (row cs), dcn P w f [((cs, []), .int 1, b)] ks, .l p (iL LL), .u, .u, .u, .u, .u, .u, .u, .u, .u] := w1
    have okc : OkS n S (cs, []) := ⟨hl, cso.few, hS, fun _ => false, by simp⟩
    refine q_forR1 w1' (n := (S : Nat)) (ea_cons (ev_d (ev_sumT (ev_var (i := 1) w1' rfl)) (by rw [hS])) ea_nil) (by omega) (fun k σ H' => ∃ f en ks c4 c5 c6 c7 c8 c9 c10 c11, OkE n (S - k) en ∧ wS (gS ps (S - k)) en = (pcN n ps (lwL cs) : Nat) ∧ KsN en ks ∧ Wd K E.C_Trade [] [] H H' σ [.d (pairsD ps), .d (row cs), dcn P w f en ks, .l p (iL LL), c4, c5, c6, c7, c8, c9, c10, c11, .u]) (fun H2 w2 => ⟨f, _, ks, _, _, _, _, _, _, _, _, ⟨by simp, fun e m => by rw [List.mem_singleton.mp m]; exact okc, fun e m => by rw [List.mem_singleton.mp m]; exact ⟨1, rfl⟩⟩, by rw [wS_one, ← f_all hok hl h0 hS]; show (1 : Int) * gS ps S (cs, []) = _; rw [Int.one_mul]; rfl, kn, w2⟩) ?_ ?_
    · rintro k σ H' hk ⟨f, en, ks, c4, c5, c6, c7, c8, c9, c10, c11, ok, ws, kn, w2⟩
      obtain ⟨s, hs⟩ : ∃ s, S - k = s + 1 := ⟨S - k - 1, by omega⟩
      rw [hs] at ok ws
      have w3 : Wd K E.C_Trade [] [] H H' _ [.d (pairsD ps), .d (row cs), dcn P w f en ks, .l p (iL LL), .d (.int (k : Nat)), c5, c6, c7, c8, c9, c10, c11, .u] := w2.set 4 (v := .int (k : Nat)) (c := .d (.int (k : Nat))) (Td.int _)
      refine q_asgDN (i := 5) w3 fun fl σ4 H4 w4 => ?_
      have w4' : Wd K E.C_Trade [] [] H H4 σ4 [.d (pairsD ps), .d (row cs), dcn P w f en ks, .l p (iL LL), .d (.int (k : Nat)), dcn P w fl [] [], c6, c7, c8, c9, c10, c11, .u] := w4
      refine q_forKN (i := 2) (a := 6) (b := 7) w4' rfl kn (by simp) (fun i Γ' => ∃ later kl c6 c7 c8 c9 c10 c11, OkE n s later ∧ KsN later kl ∧ wS (gS ps s) later = wS (gS ps (s + 1)) (en.take i) ∧ Γ' = [.d (pairsD ps), .d (row cs), dkn P w f en ks, .l p (iL LL), .d (.int (k : Nat)), dcn P w fl later kl, c6, c7, c8, c9, c10, c11, .u]) ⟨[], [], _, _, _, _, _, _, OkE.nil n s, KsN.nil, rfl, rfl⟩ ?_ ?_
      · rintro S1 H1 un i hi σ H' Γ' ⟨later, kl, c6, c7, c8, c9, c10, c11, okl, knl, wl, rfl⟩ w5
        have w5' : Wd K E.C_Trade S1 [] H1 H' σ [.d (pairsD ps), .d (row cs), dkn P w f en ks, .l p (iL LL), .d (.int (k : Nat)), dcn P w fl later kl, .d (row en[i].1.1), .d (row en[i].1.2), c8, c9, c10, c11, .u] := w5
        have me : en[i] ∈ en := List.getElem_mem hi
        have oke := ok.ok _ me
        have lk := ok.look me
        have tk : en.take (i + 1) = en.take i ++ [en[i]] := by
          rw [List.take_add_one, List.getElem?_eq_getElem hi]
          rfl
        generalize en[i] = e at w5' me oke lk tk
        obtain ⟨⟨ce, be⟩, ve, ae⟩ := e
        have le : ce.length = n := oke.1
        refine s_forL w5' (ev_var (i := 3) w5' rfl) (fun q σ H' => ∃ later kl c8 c9 c10 c11, OkE n s later ∧ KsN later kl ∧ wS (gS ps s) later = wS (gS ps (s + 1)) (en.take i) + vi ve * partS n ps s (ce, be) q ∧ Wd K E.C_Trade S1 [] H1 H' σ [.d (pairsD ps), .d (row cs), dkn P w f en ks, .l p (iL LL), .d (.int (k : Nat)), dcn P w fl later kl, .d (row ce), .d (row be), c8, c9, c10, c11, .u]) (fun H2 w6 => ⟨later, kl, _, _, _, _, okl, knl, by rw [wl]; unfold partS; simp, w6⟩) (fun q σ' H' ⟨_, _, _, _, _, _, _, _, _, w6⟩ => by
          obtain ⟨_, _, _, xs, h, t⟩ := w6.get (i := 3) rfl
          exact ⟨xs, h, t⟩) ?_ ?_
        · rintro q d v σ' H' hq td ⟨later, kl, c8, c9, c10, c11, okl, knl, wl, w6⟩
          have hqn : q < n := by
            have := (List.getElem?_eq_some_iff.mp hq).1
            rw [iL_len, ← hLL] at this
            simpa using this
          obtain rfl : d = .int ((q : Nat) : Int) := by
            rw [iL_get, ← hLL, List.getElem?_map, List.getElem?_range hqn] at hq
            exact (Option.some.inj hq).symm
          have w7 : Wd K E.C_Trade S1 [] H1 H' _ [.d (pairsD ps), .d (row cs), dkn P w f en ks, .l p (iL LL), .d (.int (k : Nat)), dcn P w fl later kl, .d (row ce), .d (row be), .d (.int ((q : Nat) : Int)), c9, c10, c11, .u] := w6.set 8 (v := v) (c := .d (.int ((q : Nat) : Int))) td
          have hqc : q < ce.length := by omega
          have hat : atI (iL ce) ((q : Nat) : Int) = some (.int (ce.getD q 0)) := atI_nat (by
            unfold iL
            rw [List.getElem?_map, List.getElem?_eq_getElem hqc, List.getD_eq_getElem?_getD, List.getElem?_eq_getElem hqc]
            rfl)
          refine s_if w7 (b := canN (ce, be) q) (et_cast (et_and (et_test (ev_i0 (ev_ixT (ev_var (i := 6) w7 rfl) (ev_var (i := 8) w7 rfl) hat) ev_int (fun _ => .bl _))) fun _ => et_test (ev_inTi (ev_var (i := 8) w7 rfl) (ev_var (i := 7) w7 rfl))) (by unfold canN; simp)) (fun z H8 w8 => ?_) (fun z H8 w8 => ?_)
          · refine q_asgD w8 (d := row (lessC ce q)) (ev_d (ev_addT (ev_addT (ev_slT (ev_var (i := 6) w8 rfl) eo_none (eo_some (ev_var (i := 8) w8 rfl))) (ev_tup (ed_cons (ev_i0 (ev_ixT (ev_var (i := 6) w8 rfl) (ev_var (i := 8) w8 rfl) hat) ev_int (fun _ => .int _)) ed_nil)) ?_) (ev_slT (lo := some ((q + 1 : Nat) : Int)) (ev_var (i := 6) w8 rfl) (eo_some (ev_d (ev_addI (ev_var (i := 8) w8 rfl) ev_int) (by congr 1))) eo_none) ?_) ?_) fun σ9 H9 w9 => ?_
            · rw [cut_to]
              simp [iL]
              omega
            · rw [cut_to, cut_from]
              simp [iL]
              omega
            · rw [cut_to, cut_from]
              unfold lessC row iL
              rw [List.map_append, List.map_append, List.map_take, List.map_drop]
              rfl
            · have w9' : Wd K E.C_Trade S1 [] H1 H9 σ9 [.d (pairsD ps), .d (row cs), dkn P w f en ks, .l p (iL LL), .d (.int (k : Nat)), dcn P w fl later kl, .d (row ce), .d (row be), .d (.int ((q : Nat) : Int)), .d (row (lessC ce q)), c10, c11, .u] := w9
              have l6 : LL.length ≤ 4 := by rw [← hLL]; simp; omega
              refine q_asgN w9' (en_lcS (j := 12) (l := LL) (mk := PyData.int) w9' (ev_lend (ev_var (i := 3) w9' rfl)) (fun b => mayL ps (q : Nat) b) PyData.int (by omega) (fun x _ σ1 H1 w1 => et_truB (ev_call (ea_cons (ev_var (i := 0) w1 rfl) (ea_cons (ev_var (i := 8) w1 rfl) (ea_cons (ev_var (i := 12) w1 rfl) ea_nil))) ⟨_, _, _, rfl, rfl⟩)) (fun x _ σ1 H1 w1 _ => ev_var (i := 12) w1 rfl)) fun pn σ10 H10 _ w10 => ?_
              have w10' : Wd K E.C_Trade S1 [] H1 H10 σ10 [.d (pairsD ps), .d (row cs), dkn P w f en ks, .l p (iL LL), .d (.int (k : Nat)), dcn P w fl later kl, .d (row ce), .d (row be), .d (.int ((q : Nat) : Int)), .d (row (lessC ce q)), .l pn (iL (LL.filter fun b => mayL ps (q : Nat) b)), c11, .u] := w10
              have l6' := List.length_filter_le (fun b => mayL ps (q : Nat) b) LL
              refine q_asgD w10' (d := keyD (nextS n ps (ce, be) q)) (ev_d (ev_tup (ed_cons (ev_var (i := 9) w10' rfl) (ed_cons (ev_tupleN (en_lcS (j := 12) (l := LL.filter fun b => mayL ps (q : Nat) b) (mk := PyData.int) w10' (ev_lend (ev_var (i := 10) w10' rfl)) (fun b => decide (b ∈ be) || decide (b < (q : Nat))) PyData.int (by omega) (fun x _ σ1 H1 w1 => et_or (et_test (ev_inTi (ev_var (i := 12) w1 rfl) (ev_var (i := 7) w1 rfl))) fun _ => et_test (ev_i0 (ev_var (i := 12) w1 rfl) (ev_var (i := 8) w1 rfl) (fun _ => .bl _))) (fun x _ σ1 H1 w1 _ => ev_var (i := 12) w1 rfl))) ed_nil))) ?_) fun σ11 H11 w11 => ?_
              · unfold nextS nxB keyD
                rw [hLL]
                rfl
              · have w11' : Wd K E.C_Trade S1 [] H1 H11 σ11 [.d (pairsD ps), .d (row cs), dkn P w f en ks, .l p (iL LL), .d (.int (k : Nat)), dcn P w fl later kl, .d (row ce), .d (row be), .d (.int ((q : Nat) : Int)), .d (row (lessC ce q)), .l pn (iL (LL.filter fun b => mayL ps (q : Nat) b)), .d (keyD (nextS n ps (ce, be) q)), .u] := w11
                have nok : OkS n s (nextS n ps (ce, be) q) := next_ok oke hqn z
                have few := okl.few n4
                refine s_putN (i := 5) (r := nextS n ps (ce, be) q) (x := vL later (nextS n ps (ce, be) q) + vi ve) w11' rfl knl (ev_var (i := 11) w11' rfl) (ev_addI (ev_getN (ev_var (i := 5) w11' rfl) knl (ev_var (i := 11) w11' rfl) (okl.get _)) (ev_getE (r := (ce, be)) (ev_var (i := 2) w11' rfl) kn (ev_tup (ed_cons (ev_var (i := 6) w11' rfl) (ed_cons (ev_var (i := 7) w11' rfl) ed_nil))) lk)) (by omega) fun bb kl' H12 kn' w12 => ⟨_, kl', _, _, _, _, okl.put nok _ bb, kn', ?_, w12⟩
                rw [wS_put _ _ _ _ okl.nd, wl, partS_succ, if_pos z, Int.mul_add]
                have e3 : vL later (nextS n ps (ce, be) q) + vi ve - vL later (nextS n ps (ce, be) q) = vi ve := by omega
                rw [e3]
                omega
          · refine ⟨later, kl, _, _, _, _, okl, knl, ?_, w8⟩
            rw [wl, partS_succ, if_neg (by rw [z]; exact Bool.false_ne_true), Int.add_zero]
        · rintro σ' H' ⟨later, kl, c8, c9, c10, c11, okl, knl, wl, w6⟩
          refine ⟨_, ⟨later, kl, _, _, _, _, _, _, okl, knl, ?_, rfl⟩, w6⟩
          have eLn : (iL LL).length = n := by rw [iL_len, ← hLL]; simp
          rw [wl, tk, wS_app, wS_one, eLn, partS_all hok oke]
      · rintro σ' H' Γ' ⟨later, kl, c6, c7, c8, c9, c10, c11, okl, knl, wl, rfl⟩ w6
        rw [List.take_length, ws] at wl
        have es : S - (k + 1) = s := by omega
        refine s_moveO (i := 5) (j := 2) w6 rfl fun σ7 w7 => ⟨fl, later, kl, _, _, _, _, _, _, _, _, ?_, ?_, knl, w7⟩
        · rw [es]; exact okl
        · rw [es]; exact wl
    · rintro σ H' ⟨f, en, ks, c4, c5, c6, c7, c8, c9, c10, c11, ok, ws, kn, w2⟩
      rw [Int.toNat_natCast, Nat.sub_self] at ok ws
      have few := ok.few n4
      refine s_retSumN (i := 2) (j := 11) w2 rfl (by decide) (by show 11 < 13; decide) kn (fun e m => ok.look m) (by omega) fun H3 sm => q _ H3 sm ?_
      have e : (en.map fun e => vi e.2.1).sum = (pcN n ps (lwL cs) : Nat) := by
        rw [← ws]
        unfold wS gS
        congr 1
        refine List.map_congr_left fun e _ => ?_
        show _ = vi e.2.1 * ((1 : Nat) : Int)
        omega
      rw [e]
      exact Td.int _
end
end K1
set_option maxRecDepth 10000000
namespace K1
open PySem PySem.Spec PyProof.Rows L2 Pt
local macro_rules
  | `(tactic| walk_at "sz") => `(tactic| first
    | omega
    | decide
    | (simp; omega)
    | (simp [iL, row, pairsD]; omega))
  | `(tactic| walk_at "ea") => `(tactic| first
    | (with_reducible exact ea_nil)
    | ((with_reducible apply ea_consL); (focus (walk_at "ev")); (focus (walk_at "ea")))
    | ((with_reducible apply ea_consS); (focus (walk_at "ev")); (focus (walk_at "ea")))
    | ((with_reducible apply ea_cons); (focus (walk_at "ev")); (focus (walk_at "ea")))
    | ((with_reducible apply ea_consN); (focus (walk_at "en")); (focus (walk_at "ea"))))
  | `(tactic| walk_at "ed") => `(tactic| first
    | (with_reducible exact ed_nil)
    | ((with_reducible apply ed_cons); (focus (walk_at "ev")); (focus (walk_at "ed"))))
  | `(tactic| walk_at "en") => `(tactic| first
    | ((with_reducible apply en_lst); (focus (walk_at "ed")); (focus (simp)))
    | ((with_reducible apply en_listT); (focus (walk_at "ev")))
    | ((with_reducible apply en_addL); (focus (walk_at "ev")); (focus (walk_at "en")); (focus (walk_at "sz")))
    | ((with_reducible apply en_addN); (focus (walk_at "en")); (focus (walk_at "en")); (focus (walk_at "sz")))
    | ((with_reducible apply en_slL); (focus (walk_at "ev")); (focus (walk_at "eo")); (focus (walk_at "eo"))))
  | `(tactic| walk_at "eo") => `(tactic| first
    | (with_reducible exact eo_none)
    | ((with_reducible apply eo_some); (focus (walk_at "ev"))))
  | `(tactic| walk_at "et") => `(tactic| first
    | (with_reducible exact et_yes)
    | ((with_reducible apply et_test); (focus (walk_at "ev")))
    | ((with_reducible apply et_B); (focus (walk_at "ev")))
    | ((with_reducible apply et_truB); (focus (walk_at "ev")))
    | ((with_reducible apply et_truT); (focus (walk_at "ev")))
    | ((with_reducible apply et_not); (focus (walk_at "et")))
    | ((with_reducible apply et_and); (focus (walk_at "et")); (focus (intro _; walk_at "et")))
    | ((with_reducible apply et_or); (focus (walk_at "et")); (focus (intro _; walk_at "et"))))
  | `(tactic| walk_at "var") => `(tactic| first
    | ((with_reducible apply ev_varD); (focus (assumption)); (focus (rfl)))
    | ((with_reducible apply ev_varL); (focus (assumption)); (focus (rfl)))
    | ((with_reducible apply ev_varS); (focus (assumption)); (focus (rfl)))
    | ((with_reducible apply ev_varT); (focus (assumption)); (focus (rfl)))
    | ((with_reducible apply ev_varH); (focus (assumption)); (focus (rfl)))
    | ((with_reducible apply ev_varZ); (focus (assumption)); (focus (rfl))))
  | `(tactic| walk_at "ev") => `(tactic| first
    | walk_at "var"
    | (with_reducible exact ev_int)
    | (with_reducible exact ev_bl)
    | (with_reducible exact ev_str)
    | (with_reducible exact ev_non)
    | ((with_reducible apply ev_letters); (focus (walk_at "ev")))
    | ((with_reducible apply ev_pairs); (focus (walk_at "ev")))
    | ((with_reducible apply ev_addI); (focus (walk_at "ev")); (focus (walk_at "ev")))
    | ((with_reducible apply ev_addT); (focus (walk_at "ev")); (focus (walk_at "ev")); (focus (walk_at "sz")))
    | ((with_reducible apply ev_i0); (focus (walk_at "ev")); (focus (walk_at "ev")); (focus (first | exact fun _ => .int _ | exact fun _ => .bl _)))
    | ((with_reducible apply ev_iC); (focus (walk_at "ev")); (focus (walk_at "ev")); (focus (first | assumption | walk_at "cond")); (focus (exact fun _ => .int _)))
    | ((with_reducible apply ev_chain); (focus (walk_at "ev")); (focus (walk_at "ev")); (focus (walk_at "ev")))
    | ((with_reducible apply ev_eqI); (focus (walk_at "ev")); (focus (walk_at "ev")))
    | ((with_reducible apply ev_neI); (focus (walk_at "ev")); (focus (walk_at "ev")))
    | ((with_reducible apply ev_eqR); (focus (walk_at "ev")); (focus (walk_at "ev")))
    | ((with_reducible apply ev_neR); (focus (walk_at "ev")); (focus (walk_at "ev")))
    | ((with_reducible apply ev_isN); (focus (walk_at "ev")))
    | ((with_reducible apply ev_notN); (focus (walk_at "ev")))
    | ((with_reducible apply ev_in2); (focus (walk_at "ev")); (focus (walk_at "ev")); (focus (walk_at "ev")))
    | ((with_reducible apply ev_inP); (focus (walk_at "ev")); (focus (walk_at "ev")))
    | ((with_reducible apply ev_tup); (focus (walk_at "ed")); (focus (simp)))
    | ((with_reducible apply ev_lenT); (focus (walk_at "ev")))
    | ((with_reducible apply ev_lenL); (focus (walk_at "ev")))
    | ((with_reducible apply ev_lenS); (focus (walk_at "ev")))
    | ((with_reducible apply ev_lenN); (focus (walk_at "en")))
    | ((with_reducible apply ev_max2); (focus (walk_at "ev")); (focus (walk_at "ev")))
    | ((with_reducible apply ev_min2); (focus (walk_at "ev")); (focus (walk_at "ev")))
    | ((with_reducible apply ev_int1); (focus (walk_at "ev")))
    | ((with_reducible apply ev_tupleL); (focus (walk_at "ev")))
    | ((with_reducible apply ev_tupleN); (focus (walk_at "en")))
    | ((with_reducible apply ev_countT); (focus (walk_at "ev")); (focus (walk_at "ev")))
    | ((with_reducible apply ev_andV); (focus (walk_at "ev")); (focus (intro _; walk_at "ev")))
    | ((with_reducible apply ev_orV); (focus (walk_at "ev")); (focus (intro _; walk_at "ev")))
    | ((with_reducible apply ev_notV); (focus (walk_at "ev"))))
theorem words_chk : ((List.range 4).all fun n => (List.range 7).all fun s => (countsN n s).all fun c => decide ((wordsN s c).length ≤ 250)) = true := by decide +kernel
theorem words_180 {s : Nat} {cs : List Int} (hl : 1 ≤ cs.length ∧ cs.length ≤ 4) (h0 : ∀ c ∈ cs, 0 ≤ c) (hs : cs.sum = (s : Nat)) (h6 : s ≤ 6) : (wordsN s cs).length ≤ 250 := by
  obtain ⟨n, hn⟩ : ∃ n, cs.length = n + 1 := ⟨cs.length - 1, by omega⟩
  have h1 := List.all_eq_true.mp words_chk n (List.mem_range.mpr (by omega))
  have h2 := List.all_eq_true.mp h1 s (List.mem_range.mpr (by omega))
  have h3 := List.all_eq_true.mp h2 cs ((counts_iff n s cs).mpr ⟨hn, h0, hs⟩)
  exact of_decide_eq_true h3
theorem sum_cast (f : List Int → Nat) (L : List (List Int)) : (L.map fun c => ((f c : Nat) : Int)).sum = (((L.map f).sum : Nat) : Int) := by
  induction L with
  | nil => rfl
  | cons c L ih => rw [List.map_cons, List.sum_cons, ih, List.map_cons, List.sum_cons, Int.natCast_add]
theorem mem_le_sum : ∀ {c : List Int}, (∀ x ∈ c, 0 ≤ x) → ∀ {x}, x ∈ c → x ≤ c.sum
  | [], _, _, h => by cases h
  | y :: c, h0, x, h => by
    have h1 := (sum_pos0 (cs := c) fun z hz => h0 z (List.mem_cons_of_mem _ hz)).1
    have h2 := h0 y List.mem_cons_self
    rw [List.sum_cons]
    rcases List.mem_cons.mp h with z | z
    · omega
    · have := mem_le_sum (fun z hz => h0 z (List.mem_cons_of_mem _ hz)) z
      omega
theorem prod_few (cs : List Int) (hl : cs.length ≤ 4) (hx : ∀ x ∈ cs, 0 ≤ x ∧ x ≤ 3) : prodTo cs cs.length ≤ 10000 := by
  refine Nat.le_trans (prod_le cs 4 (fun t ht => ?_) _ (Nat.le_refl _)) (Nat.le_trans (Nat.pow_le_pow_right (by decide) hl) (by decide))
  have := hx _ (getD_mem ht)
  unfold cAt
  omega
theorem prod_few2 (cs : List Int) (hl : cs.length ≤ 3) (hx : ∀ x ∈ cs, 0 ≤ x ∧ x ≤ 9) : prodTo cs cs.length ≤ 10000 := by
  refine Nat.le_trans (prod_le cs 10 (fun t ht => ?_) _ (Nat.le_refl _)) (Nat.le_trans (Nat.pow_le_pow_right (by decide) hl) (by decide))
  have := hx _ (getD_mem ht)
  unfold cAt
  omega
section
variable {P : Program} {w : World} {K : PySem.W.Frag} {mg : Str → Option Value} {base : Heap}
def spLaw (K : PySem.W.Frag) : Sp := fun vs H Q _ => ∃ (a : Addr) (ns : List Int), vs = [.ref a] ∧ Fz K H a (ns.map V.int) ∧ ns.length ≤ 63 ∧ ∀ H', Q (.bl true) H'
set_option maxHeartbeats 4000000 in
theorem ok_law_of (E : Nv K mg) (far : FnOk P w K mg base CX0 70 E.a__law_far E.d__law_far ["_law_h"] (spDr K E.C_Trade A_law_far R_law_far)) : FnOk P w K mg base CX0 90 E.a_law E.d_law ["_law_script"] (spLaw K) := by
  refine E.F_law.ok sc_law (fun vs H Q _ h => ?_) (fun cdv A outer s H vs Q _ hr h => ?_)
  · obtain ⟨_, _, rfl, _⟩ := h
    rfl
  · obtain ⟨a, cells, rfl, hz, hl, q⟩ := h
    refine ⟨_, (pss_cons (ps_set (i := 1) sc_law.nd rfl (.inr rfl) (pe_call (ok__law_mix E) (hr.mono (by first | decide | omega)) (by rfl) E.m__law_mix E.F__law_mix.kp E.b__law_mix .nil pass0 (pa_cons (pv 0) (pa_cons pe_int pa_nil))))
      (pss_cons (ps_if (pt_cmpR (op_eqK K hr.units) (pe_call (ok__law_next E) (hr.mono (by first | decide | omega)) (by rfl) E.m__law_next E.F__law_next.kp E.b__law_next .nil pass0 (pa_cons (pv 1) (pa_cons pe_int pa_nil))) pe_int (nomark _)) (pss_one (ps_ret (pe_call far (hr.mono (by decide)) (by rfl) E.m__law_far E.F__law_far.kp E.b__law_far .nil pass0 (pa_cons (pv 1) pa_nil)))) pss_nil)
      (pss_cons (ps_set (i := 2) sc_law.nd rfl (.inl rfl) (pe_op (op_addK K) pe_int (pe_call (ok__law_next E) (hr.mono (by first | decide | omega)) (by rfl) E.m__law_next E.F__law_next.kp E.b__law_next .nil pass0 (pa_cons (pv 1) (pa_cons pe_int pa_nil)))))
      (pss_cons (ps_set (i := 3) sc_law.nd rfl (.inr rfl) (pe_make E.mk_Trade (ok_Trade___init__ E) (hr.mono (by first | decide | omega)) (by rfl) E.m_Trade E.b_Trade___init__ .nil pass0 (pa_cons (pv 2) (pa_cons (pe_call (ok__law_pairs E) (hr.mono (by first | decide | omega)) (by rfl) E.m__law_pairs E.F__law_pairs.kp E.b__law_pairs .nil pass0 (pa_cons (pv 1) (pa_cons (pv 2) pa_nil))) pa_nil))))
      (pss_cons (ps_setLc (i := 4) (own := [("_law_a", 7)]) (g := gName 7) rfl sc_law.nd rfl rfl (sw_true rfl rfl rfl (by decide +kernel)) (pi_range1 (by rfl) E.n_range (pa_cons (pv 2) pa_nil)) (blkOk_by (own := [("_law_a", 7)]) (N := N_law) (sc := defScope s_law) (by decide +kernel)) (fun _ _ _ _ _ => (pg_name (i := 7) sc_law.nd rfl (Or.inl rfl))) (fun _ _ _ _ _ => pts_nil) (fun _ _ _ _ _ => (pe_call (ok__law_next E) (hr.mono (by first | decide | omega)) (by rfl) E.m__law_next E.F__law_next.kp E.b__law_next .nil pass0 (pa_cons (pv 1) (pa_cons pe_int pa_nil)))))
      (pss_cons (ps_while PassesOwn.never (pt_cmpR (op_gt) (pe_callB (cr_sumK K rfl) (by rfl) E.n_sum (by decide +kernel) (pa_cons (pv 4) pa_nil)) pe_int (nomark _)) (pss_one (ps_asg (pe_op op_sub (pe_callB (cr_maxK K rfl) (by rfl) E.n_max (by decide +kernel) (pa_cons (pv 4) pa_nil)) pe_int) (pg_sub (pv 4) (pe_bm PySem.F.plainAttrs_list PySem.F.slot_list_index PySem.F.type_list_index (mt_indexDK K hr.units65) (pv 4) (pa_cons (pe_callB (cr_maxK K rfl) (by rfl) E.n_max (by decide +kernel) (pa_cons (pv 4) pa_nil)) pa_nil)) set_list))))
      (pss_cons (ps_set (i := 5) sc_law.nd rfl (.inl rfl) (pe_call (ok__law_rowsN E 7) (hr.mono (by decide)) (by rfl) E.m__law_rows E.F__law_rows.kp E.b__law_rows .nil pass0 (pa_cons (pe_callTy (call_tupleK K) (by rfl) E.n_tuple (by decide +kernel) (pa_cons (pv 4) pa_nil)) pa_nil)))
      (pss_cons (ps_if (pt_cmpR (op_neK K hr.units) (pe_call (ok_how_many_with E) (hr.mono (by first | decide | omega)) (by rfl) E.m_how_many_with E.F_how_many_with.kp E.b_how_many_with .nil pass0 (pa_cons (pv 3) (pa_cons (pe_callTy (call_tupleK K) (by rfl) E.n_tuple (by decide +kernel) (pa_cons (pv 4) pa_nil)) pa_nil))) (pe_lenSetK K rfl hr.units65 (by rfl) E.n_len (by rfl) E.n_set (pe_lc (own := [("_law_row_here", 8)]) (g := gName 8) (by rfl) sc_law.nd (pi_listK K (pv 5)) (blkOk_by (own := [("_law_row_here", 8)]) (N := N_law) (sc := defScope s_law) (by decide +kernel)) (fun _ _ _ _ _ => (pg_name (i := 8) sc_law.nd rfl (Or.inl rfl))) (fun _ _ _ _ _ => pts_nil) (fun _ _ _ _ _ => (pe_call (ok_least E) (hr.mono (by first | decide | omega)) (by rfl) E.m_least E.F_least.kp E.b_least .nil pass0 (pa_cons (pv 3) (pa_cons (pv 8) pa_nil)))))) (nomark _)) (pss_one (ps_ret pe_bl)) pss_nil)
      (pss_cons (ps_if (pt_cmpR (op_neK K hr.units) (pe_call (ok_least_with E) (hr.mono (by first | decide | omega)) (by rfl) E.m_least_with E.F_least_with.kp E.b_least_with .nil pass0 (pa_cons (pv 3) (pa_cons (pe_callTy (call_tupleK K) (by rfl) E.n_tuple (by decide +kernel) (pa_cons (pv 4) pa_nil)) pa_nil))) (pe_callB (call_minK K rfl hr.units12) (by rfl) E.n_min (by decide +kernel) (pa_cons (pv 5) pa_nil)) (nomark _)) (pss_one (ps_ret pe_bl)) pss_nil)
      (pss_cons (ps_set (i := 2) sc_law.nd rfl (.inl rfl) (pe_op (op_addK K) pe_int (pe_call (ok__law_next E) (hr.mono (by first | decide | omega)) (by rfl) E.m__law_next E.F__law_next.kp E.b__law_next .nil pass0 (pa_cons (pv 1) (pa_cons pe_int pa_nil)))))
      (pss_cons (ps_asg (pe_tupF (pa_cons (pe_make E.mk_Trade (ok_Trade___init__ E) (hr.mono (by first | decide | omega)) (by rfl) E.m_Trade E.b_Trade___init__ .nil pass0 (pa_cons (pv 2) (pa_cons (pe_call (ok__law_pairs E) (hr.mono (by first | decide | omega)) (by rfl) E.m__law_pairs E.F__law_pairs.kp E.b__law_pairs .nil pass0 (pa_cons (pv 1) (pa_cons (pv 2) pa_nil))) pa_nil))) (pa_cons (pe_call (ok__law_next E) (hr.mono (by first | decide | omega)) (by rfl) E.m__law_next E.F__law_next.kp E.b__law_next .nil pass0 (pa_cons (pv 1) (pa_cons pe_int pa_nil))) pa_nil))) (pg_tupK K (n := 2) rfl (pgs_cons (pg_name (i := 3) sc_law.nd rfl (.inr rfl)) (pgs_cons (pg_name (i := 6) sc_law.nd rfl (.inl rfl)) pgs_nil))))
      (pss_one (ps_ret (pe_cmpR (op_eqK K hr.units) (pe_callB (cr_sumK K rfl) (by rfl) E.n_sum (by decide +kernel) (pa_cons (pe_lc (own := [("_law_one", 9)]) (g := gName 9) (by rfl) sc_law.nd (pi_listK K (pe_call (ok__law_all_countsN E 3) (hr.mono (by decide)) (by rfl) E.m__law_all_counts E.F__law_all_counts.kp E.b__law_all_counts .nil pass0 (pa_cons (pv 2) (pa_cons (pv 6) pa_nil)))) (blkOk_by (own := [("_law_one", 9)]) (N := N_law) (sc := defScope s_law) (by decide +kernel)) (fun _ _ _ _ _ => (pg_name (i := 9) sc_law.nd rfl (Or.inl rfl))) (fun _ _ _ _ _ => pts_nil) (fun _ _ _ _ _ => (pe_call (ok_how_many_with E) (hr.mono (by first | decide | omega)) (by rfl) E.m_how_many_with E.F_how_many_with.kp E.b_how_many_with .nil pass0 (pa_cons (pv 3) (pa_cons (pv 9) pa_nil))))) pa_nil)) (pe_call (ok_how_many E) (hr.mono (by first | decide | omega)) (by rfl) E.m_how_many E.F_how_many.kp E.b_how_many .nil pass0 (pa_cons (pv 3) (pa_cons (pv 6) pa_nil))) (nomark _))))))))))))))), ?_⟩
    have w0 : Wd K E.C_Trade [] [] H H _ [.z a (iL cells), .u, .u, .u, .u, .u, .u, .u, .u, .u] := Wd.start1 (N := N_law) (c1 := .z a (iL cells)) ⟨rfl, _, hz, TdAll.of_iL cells⟩
    refine q_mix w0 rfl hl fun p c σ1 H1 w1 => ?_
    refine q_whenI (R := fun r => 0 ≤ r ∧ r < 2) w1 (fun H w Q k => dr_next w rfl ev_int (by decide) (by decide) fun r H' r0 r1 w' => k r H' ⟨r0, r1⟩ w') (fun _ H2 w2 => ?_) (fun _ _ _ H2 w2 => ?_)
    · refine s_retDr (ts := tNil) (as := []) w2 rfl ea_nil rfl fun v d H' hR td => ?_
      subst hR
      rw [Td.bl_of td]
      exact q H'
    refine q_drawAdd w2 rfl (by decide) (by decide) fun r σ3 H3 r0 r1 w3 => ?_
    generalize hn : 1 + r = ni at w3
    obtain ⟨n, rfl⟩ : ∃ n : Nat, ni = (n : Int) := ⟨ni.toNat, by omega⟩
    have m1 : 1 ≤ n := by omega
    have m4 : n ≤ 4 := by omega
    refine q_makeDr (j := 3) w3 rfl rfl (by omega) (by omega) fun ps σ4 H4 hok w4 => ?_
    have w4' : Wd K E.C_Trade [] [] H H4 σ4 [.z a (iL cells), .h p c, .d (.int (n : Nat)), .t n ps, .u, .u, .u, .u, .u, .u] := w4
    refine q_drC (z := 4) (i := 1) (j := 7) w4' rfl (by decide) (by decide) (by show 4 < 10; decide) (ea_cons (ev_var (i := 2) w4' rfl) ea_nil) (by omega) (by decide) (by decide) fun l0 pc H5 hl0 hx0 w5 => ?_
    rw [Int.toNat_natCast] at hl0
    refine ⟨fun m σ H' => ∃ l : List Int, Wd K E.C_Trade [] [] H H' σ [.z a (iL cells), .h p c, .d (.int (n : Nat)), .t n ps, .l pc (iL l), .u, .u, .u, .u, .u] ∧ l.length = n ∧ (∀ x ∈ l, 0 ≤ x ∧ x ≤ 3) ∧ m = l.sum.toNat, ⟨_, l0, w5, hl0, fun x hx => by have := hx0 x hx; omega, rfl⟩, ?_⟩
    rintro m σ H' ⟨l, w6, hll, hxl, rfl⟩
    have l0' : ∀ x ∈ l, 0 ≤ x := fun x hx => (hxl x hx).1
    have hne : l ≠ [] := fun e => by subst e; simp at hll; omega
    obtain ⟨M, hM, top⟩ := top_int l hne
    refine (et_test (ev_i0 (ev_sumL (ev_var (i := 4) w6 rfl)) ev_int (fun _ => .bl _))) H' (Same.refl H') _ fun H6 e6 => ?_
    have w7 := w6.mono e6
    by_cases big : 6 < l.sum
    · rw [decide_eq_true big, if_pos rfl]
      have hj := List.idxOf_lt_length_of_mem hM
      have ej : l.getD (l.idxOf M) 0 = M := by
        rw [List.getD_eq_getElem?_getD, List.getElem?_eq_getElem hj, List.getElem_idxOf]
        rfl
      have M1 : 0 < M := by
        by_cases z : 0 < M
        · exact z
        · have : l.sum = 0 := (cnt_none l0').mpr fun x => by
            unfold cnt
            split
            · rename_i y
              have := top _ (getD_mem (cs := l) (j := x.toNat) (by omega))
              omega
            · rfl
          omega
      refine ⟨fun σ' H' => ∃ l' : List Int, Wd K E.C_Trade [] [] H H' σ' [.z a (iL cells), .h p c, .d (.int (n : Nat)), .t n ps, .l pc (iL l'), .u, .u, .u, .u, .u] ∧ l'.length = n ∧ (∀ x ∈ l', 0 ≤ x ∧ x ≤ 3) ∧ l'.sum = l.sum - 1, fun σ' H' ⟨l', z1, z2, z3, z4⟩ => ⟨l'.sum.toNat, by omega, l', z1, z2, z3, rfl⟩, ?_⟩
      refine s_setL (i := 4) (j := l.idxOf M) (d := .int (M - 1)) w7 rfl (ev_i0 (ev_maxL (ev_var (i := 4) w7 rfl) hM top) ev_int (fun _ => .int _)) (fun H8 w8 => ev_indexI (ev_var (i := 4) w8 rfl) (ev_maxL (ev_var (i := 4) w8 rfl) hM top) hM) (by rw [iL_len]; exact hj) fun H9 w9 => ?_
      have e9 : (iL l).set (l.idxOf M) (.int (M - 1)) = iL (lessC l (l.idxOf M)) := by
        rw [less_set hj, ej]
        unfold iL
        rw [List.map_set]
      have w9' : Wd K E.C_Trade [] [] H H9 σ [.z a (iL cells), .h p c, .d (.int (n : Nat)), .t n ps, .l pc (iL (lessC l (l.idxOf M))), .u, .u, .u, .u, .u] := e9 ▸ w9
      refine ⟨lessC l (l.idxOf M), w9', by rw [less_len hj, hll], fun x hx => ⟨less_pos hj l0' (by omega) x hx, ?_⟩, less_sum hj⟩
      rw [less_set hj] at hx
      rcases List.mem_or_eq_of_mem_set hx with z | z
      · exact (hxl x z).2
      · have := (hxl M hM).2
        omega
    rw [decide_eq_false big, if_neg Bool.false_ne_true]
    obtain ⟨s, hs⟩ : ∃ s : Nat, l.sum = (s : Nat) := ⟨l.sum.toNat, by have := (sum_pos0 l0').1; omega⟩
    have s6 : s ≤ 6 := by omega
    clear w5 w6
    have cso : CsOk n l := ⟨hll, fun x hx => by have := hxl x hx; omega, by omega⟩
    have pr : prodTo l l.length ≤ 10000 := prod_few l (by omega) fun x hx => by have := hxl x hx; omega
    have tup : ∀ {σ : L2.St} {H1 : Hp} {c5 c8 c9 : Ct}, Wd K E.C_Trade [] [] H H1 σ [.z a (iL cells), .h p c, .d (.int (n : Nat)), .t n ps, .l pc (iL l), c5, .u, .u, c8, c9] → EvC K E.C_Trade (tCB (rTupleOf K) (tCons (tVar 4) tNil)) σ H1 (.d (row l)) := fun {σ H1 c5 c8 c9} w => ev_tupleL (ev_var (i := 4) w rfl)
    refine q_asgN w7 (en_call (ea_cons (tup w7) ea_nil) ⟨l, s, by omega, l0', hs, by omega, s6, rfl, rfl⟩) fun pe σ8 H8 _ w8 => ?_
    have w8' : Wd K E.C_Trade [] [] H H8 σ8 [.z a (iL cells), .h p c, .d (.int (n : Nat)), .t n ps, .l pc (iL l), .l pe ((wordsN s l).map row), .u, .u, .u, .u] := w8
    have wf := words_few (s := s) (cs := l) (by omega) s6
    have wn := words_180 (s := s) (cs := l) ⟨by omega, by omega⟩ l0' hs s6
    refine s_when w8' (b := false) (et_cast (et_test (ev_neI (ev_call (ea_cons (ev_var (i := 3) w8' rfl) (ea_cons (tup w8') ea_nil)) ⟨n, ps, l, by omega, cso, pr, hw_ok ps cso, rfl, rfl⟩)
      (ev_lenSetN (L := (wordsN s l).map (leastL ps)) (D := pcL n ps (lwL l)) (en_cast (en_lcS (j := 8) (l := wordsN s l) (mk := row) w8' (ev_lend (ev_var (i := 5) w8' rfl)) (fun _ => true) (fun r => row (leastL ps r)) (by omega) (fun r hr σ1 H1 w1 => et_yes)
        (fun r hr σ1 H1 w1 _ => ev_call (ea_cons (ev_var (i := 3) w1 rfl) (ea_cons (ev_var (i := 8) w1 rfl) ea_nil)) ⟨n, ps, r, hok, by omega, by omega, ⟨by rw [words_mem s l r hr]; omega, fun x hx => by
          have z := ((words_perm l0' hs r).mp hr).mem_iff.mp hx
          rw [lw_wd, hll] at z
          exact wd_in _ n x z⟩, rfl, rfl⟩)) (by rw [kept_all, List.map_map]; rfl)) (by rw [List.length_map]; exact wn) (pc_rows hok (by rw [lw_wd, hll]; exact wd_in _ n)).nd (words_least hok hll l0' hs)))) (by rw [hw_count hok hll]; unfold pcN; simp)) (fun z => by cases z) (fun _ H9 w9 => ?_)
    obtain ⟨r1', L1, eW, eMin⟩ := words_min l0' hs
    refine s_when w9 (b := false) (et_cast (et_test (ev_neR (k := lwL l) (j := lwL l) (ev_call (ea_cons (ev_var (i := 3) w9 rfl) (ea_cons (tup w9) ea_nil)) ⟨n, ps, l, by omega, cso, by omega, rfl, rfl⟩) (ev_d (ev_minL (d := row r1') (ds := L1.map row) (by
        have z := ev_var (i := 5) w9 rfl
        rw [eW] at z
        exact z) (rows_alikeAll (r1' :: L1)) (Nat.le_trans (depth_rows (r1' :: L1)) (by decide))) (by rw [minD_rows, eMin])))) (by simp)) (fun z => by cases z) (fun _ Ha wa => ?_)
    refine q_drawAdd wa (j := 2) rfl (by decide) (by decide) fun r2 σb Hb r20 r21 wb => ?_
    generalize hn2 : 2 + r2 = ni2 at wb
    obtain ⟨n2, rfl⟩ : ∃ n : Nat, ni2 = (n : Int) := ⟨ni2.toNat, by omega⟩
    obtain ⟨u, rfl⟩ : ∃ u, n2 = u + 1 := ⟨n2 - 1, by omega⟩
    have u2 : u ≤ 2 := by omega
    refine q_makeDr2 (j := 3) (z := 6) wb rfl rfl (by omega) (by omega) (by decide) (by decide) fun ps2 r3 σc Hc hok2 r30 r31 wc => ?_
    obtain ⟨k, rfl⟩ : ∃ k : Nat, r3 = (k : Int) := ⟨r3.toNat, by omega⟩
    have wc' : Wd K E.C_Trade [] [] H Hc σc [.z a (iL cells), .h p c, .d (.int (u + 1 : Nat)), .t (u + 1 : Nat) ps2, .l pc (iL l), .l pe ((wordsN s l).map row), .d (.int (k : Nat)), .u, .u, .u] := wc
    have cf := counts_few (n := u) (l := k) (by omega) (by omega)
    have cok : ∀ c ∈ countsN u k, CsOk (u + 1) c := fun c hc => by
      obtain ⟨c1, c2, c3⟩ := (counts_iff u k c).mp hc
      refine ⟨c1, fun x hx => ⟨c2 x hx, ?_⟩, by omega⟩
      have := mem_le_sum c2 hx
      omega
    refine s_ret wc' (c := .d (.bool true)) (ev_d (ev_eqI (ev_sumN (ns := (countsN u k).map fun c => ((pcN (u + 1) ps2 (lwL c) : Nat) : Int)) (en_cast (en_lcN (j := 9) (l := countsN u k) (mk := row) wc' (en_call (ea_cons (ev_var (i := 2) wc' rfl) (ea_cons (ev_var (i := 6) wc' rfl) ea_nil)) ⟨u, k, by omega, by omega, by omega, rfl, rfl⟩) (fun _ => true) (fun c => .int (pcN (u + 1) ps2 (lwL c) : Nat)) (by omega) (fun c hc σ1 H1 w1 => et_yes)
      (fun c hc σ1 H1 w1 _ => ev_d (ev_call (ea_cons (ev_var (i := 3) w1 rfl) (ea_cons (ev_var (i := 9) w1 rfl) ea_nil)) ⟨u + 1, ps2, c, by omega, cok c hc, prod_few2 c (by rw [(cok c hc).len]; omega) fun x hx => by
        have h1 := (counts_iff u k c).mp hc
        have h2 := mem_le_sum h1.2.1 hx
        have := h1.2.1 x hx
        omega, hw_ok ps2 (cok c hc), rfl, rfl⟩) (by rw [hw_count hok2 (cok c hc).len]))) (by rw [kept_all]; unfold iL; rw [List.map_map]; rfl))) (ev_call (ea_cons (ev_var (i := 3) wc' rfl) (ea_cons (ev_var (i := 6) wc' rfl) ea_nil)) ⟨u + 1, ps2, k, hok2, by omega, by omega, rfl, rfl⟩)) (by
          have z := counts_sum hok2 k
          rw [sum_cast, z]
          simp)) fun v Hd wd ad => by
      rw [Td.bl_of ad]
      exact q Hd
end
end K1
set_option maxRecDepth 10000000
namespace K1
open PySem PySem.Spec PyProof.Rows L2 Pt
section
variable {P : Program} {w : World} {K : PySem.W.Frag} {mg : Str → Option Value} {base : Heap}
theorem ok__law_far (E : Nv K mg) : FnOk P w K mg base CX0 70 E.a__law_far E.d__law_far ["_law_h"] (spDr K E.C_Trade A_law_far R_law_far) := ok__law_far_of E (ok__law_many E)
theorem ok_law (E : Nv K mg) : FnOk P w K mg base CX0 90 E.a_law E.d_law ["_law_script"] (spLaw K) := ok_law_of E (ok__law_far E)
end
end K1
namespace K1
open PySem PySem.Spec PyProof.Rows L2 Pt
set_option maxHeartbeats 8000000 in
theorem all_mk {P : Program} {w : World} {K : PySem.W.Frag} {h : Heap} {mg : Str → Option Value} {fa : Addr} (X : K.In h) (G : h.Ns mainGlobals mg) (hfa : mg "law" = some (.ref fa))
    {fa_is_whole fa_is_letter fa_is_pair fa_check_pairs fa_Trade___init__ fa_Trade_letters pr_letters fa_Trade_pairs pr_pairs fa_Trade___eq__ fa_check_trade fa_may_change fa_bars_of fa_all_groups fa_may_join fa_signed_counts fa_sign fa_how_many fa_is_row fa_check_row fa_least fa_first_letters fa_without fa_least_of fa_check_counts fa_how_many_with fa_choices_up_to fa_groups_within fa_bits_of fa_far_back fa_least_with fa__law_mix fa__law_next fa__law_pairs fa__law_may fa__law_rows fa__law_all_counts fa__law_many fa__law_far fa_law C_Trade : Addr}
    {od_is_whole an_is_whole od_is_letter an_is_letter od_is_pair an_is_pair od_check_pairs an_check_pairs od_Trade___init__ an_Trade___init__ od_Trade_letters an_Trade_letters od_Trade_pairs an_Trade_pairs od_Trade___eq__ an_Trade___eq__ od_check_trade an_check_trade od_may_change an_may_change od_bars_of an_bars_of od_all_groups an_all_groups od_may_join an_may_join od_signed_counts an_signed_counts od_sign an_sign od_how_many an_how_many od_is_row an_is_row od_check_row an_check_row od_least an_least od_first_letters an_first_letters od_without an_without od_least_of an_least_of od_check_counts an_check_counts od_how_many_with an_how_many_with od_choices_up_to an_choices_up_to od_groups_within an_groups_within od_bits_of an_bits_of od_far_back an_far_back od_least_with an_least_with od__law_mix an__law_mix od__law_next an__law_next od__law_pairs an__law_pairs od__law_may an__law_may od__law_rows an__law_rows od__law_all_counts an__law_all_counts od__law_many an__law_many od__law_far an__law_far od_law an_law : Option Addr}
    {sl_is_whole sl_is_letter sl_is_pair sl_check_pairs sl_Trade___init__ sl_Trade_letters sl_Trade_pairs sl_Trade___eq__ sl_check_trade sl_may_change sl_bars_of sl_all_groups sl_may_join sl_signed_counts sl_sign sl_how_many sl_is_row sl_check_row sl_least sl_first_letters sl_without sl_least_of sl_check_counts sl_how_many_with sl_choices_up_to sl_groups_within sl_bits_of sl_far_back sl_least_with sl__law_mix sl__law_next sl__law_pairs sl__law_may sl__law_rows sl__law_all_counts sl__law_many sl__law_far sl_law : Array (Option Value)}
    {oc_is_whole kV_is_whole dc_is_whole pm_is_whole cd_is_whole ct_is_whole oc_is_letter kV_is_letter dc_is_letter pm_is_letter cd_is_letter ct_is_letter oc_is_pair kV_is_pair dc_is_pair pm_is_pair cd_is_pair ct_is_pair oc_check_pairs kV_check_pairs dc_check_pairs pm_check_pairs cd_check_pairs ct_check_pairs oc_Trade___init__ kV_Trade___init__ dc_Trade___init__ pm_Trade___init__ cd_Trade___init__ ct_Trade___init__ oc_Trade_letters kV_Trade_letters dc_Trade_letters pm_Trade_letters cd_Trade_letters ct_Trade_letters oc_Trade_pairs kV_Trade_pairs dc_Trade_pairs pm_Trade_pairs cd_Trade_pairs ct_Trade_pairs oc_Trade___eq__ kV_Trade___eq__ dc_Trade___eq__ pm_Trade___eq__ cd_Trade___eq__ ct_Trade___eq__ oc_check_trade kV_check_trade dc_check_trade pm_check_trade cd_check_trade ct_check_trade oc_may_change kV_may_change dc_may_change pm_may_change cd_may_change ct_may_change oc_bars_of kV_bars_of dc_bars_of pm_bars_of cd_bars_of ct_bars_of oc_all_groups kV_all_groups dc_all_groups pm_all_groups cd_all_groups ct_all_groups oc_may_join kV_may_join dc_may_join pm_may_join cd_may_join ct_may_join oc_signed_counts kV_signed_counts dc_signed_counts pm_signed_counts cd_signed_counts ct_signed_counts oc_sign kV_sign dc_sign pm_sign cd_sign ct_sign oc_how_many kV_how_many dc_how_many pm_how_many cd_how_many ct_how_many oc_is_row kV_is_row dc_is_row pm_is_row cd_is_row ct_is_row oc_check_row kV_check_row dc_check_row pm_check_row cd_check_row ct_check_row oc_least kV_least dc_least pm_least cd_least ct_least oc_first_letters kV_first_letters dc_first_letters pm_first_letters cd_first_letters ct_first_letters oc_without kV_without dc_without pm_without cd_without ct_without oc_least_of kV_least_of dc_least_of pm_least_of cd_least_of ct_least_of oc_check_counts kV_check_counts dc_check_counts pm_check_counts cd_check_counts ct_check_counts oc_how_many_with kV_how_many_with dc_how_many_with pm_how_many_with cd_how_many_with ct_how_many_with oc_choices_up_to kV_choices_up_to dc_choices_up_to pm_choices_up_to cd_choices_up_to ct_choices_up_to oc_groups_within kV_groups_within dc_groups_within pm_groups_within cd_groups_within ct_groups_within oc_bits_of kV_bits_of dc_bits_of pm_bits_of cd_bits_of ct_bits_of oc_far_back kV_far_back dc_far_back pm_far_back cd_far_back ct_far_back oc_least_with kV_least_with dc_least_with pm_least_with cd_least_with ct_least_with oc__law_mix kV__law_mix dc__law_mix pm__law_mix cd__law_mix ct__law_mix oc__law_next kV__law_next dc__law_next pm__law_next cd__law_next ct__law_next oc__law_pairs kV__law_pairs dc__law_pairs pm__law_pairs cd__law_pairs ct__law_pairs oc__law_may kV__law_may dc__law_may pm__law_may cd__law_may ct__law_may oc__law_rows kV__law_rows dc__law_rows pm__law_rows cd__law_rows ct__law_rows oc__law_all_counts kV__law_all_counts dc__law_all_counts pm__law_all_counts cd__law_all_counts ct__law_all_counts oc__law_many kV__law_many dc__law_many pm__law_many cd__law_many ct__law_many oc__law_far kV__law_far dc__law_far pm__law_far cd__law_far ct__law_far oc_law kV_law dc_law pm_law cd_law ct_law : Value}
    {rest_letters rest_pairs  : List Value} {tk_MOST_LETTERS tk_MOST_LENGTH tk_MOST_IN_ROW tk_MOST_OF_ONE tk_MOST_TOGETHER : Tok}
    (aC : PySem.W.nsIn K mainGlobals "Trade" = some (some (.ref C_Trade)))
    (a_is_whole : PySem.W.nsIn K mainGlobals "is_whole" = some (some (.ref fa_is_whole)))
    (l_is_whole : K.lookup fa_is_whole = some ⟨oc_is_whole, od_is_whole, .func (PySem.W.fnOf "is_whole" "is_whole" (defArgs s_is_whole) (defBody s_is_whole) (defScope s_is_whole) .none kV_is_whole dc_is_whole pm_is_whole an_is_whole cd_is_whole ct_is_whole), sl_is_whole⟩)
    (c_is_whole : PySem.W.codeIn K cd_is_whole "is_whole" = true)
    (k_is_whole : PySem.W.keepIn K (.ref fa_is_whole) = true)
    (a_is_letter : PySem.W.nsIn K mainGlobals "is_letter" = some (some (.ref fa_is_letter)))
    (l_is_letter : K.lookup fa_is_letter = some ⟨oc_is_letter, od_is_letter, .func (PySem.W.fnOf "is_letter" "is_letter" (defArgs s_is_letter) (defBody s_is_letter) (defScope s_is_letter) .none kV_is_letter dc_is_letter pm_is_letter an_is_letter cd_is_letter ct_is_letter), sl_is_letter⟩)
    (c_is_letter : PySem.W.codeIn K cd_is_letter "is_letter" = true)
    (k_is_letter : PySem.W.keepIn K (.ref fa_is_letter) = true)
    (a_is_pair : PySem.W.nsIn K mainGlobals "is_pair" = some (some (.ref fa_is_pair)))
    (l_is_pair : K.lookup fa_is_pair = some ⟨oc_is_pair, od_is_pair, .func (PySem.W.fnOf "is_pair" "is_pair" (defArgs s_is_pair) (defBody s_is_pair) (defScope s_is_pair) .none kV_is_pair dc_is_pair pm_is_pair an_is_pair cd_is_pair ct_is_pair), sl_is_pair⟩)
    (c_is_pair : PySem.W.codeIn K cd_is_pair "is_pair" = true)
    (k_is_pair : PySem.W.keepIn K (.ref fa_is_pair) = true)
    (a_check_pairs : PySem.W.nsIn K mainGlobals "check_pairs" = some (some (.ref fa_check_pairs)))
    (l_check_pairs : K.lookup fa_check_pairs = some ⟨oc_check_pairs, od_check_pairs, .func (PySem.W.fnOf "check_pairs" "check_pairs" (defArgs s_check_pairs) (defBody s_check_pairs) (defScope s_check_pairs) .none kV_check_pairs dc_check_pairs pm_check_pairs an_check_pairs cd_check_pairs ct_check_pairs), sl_check_pairs⟩)
    (c_check_pairs : PySem.W.codeIn K cd_check_pairs "check_pairs" = true)
    (k_check_pairs : PySem.W.keepIn K (.ref fa_check_pairs) = true)
    (a_Trade___init__ : PySem.W.findIn K (.ref C_Trade) "__init__" = some (some (.ref fa_Trade___init__)))
    (i_Trade___init__ : PySem.W.isFn K (.ref fa_Trade___init__) = true)
    (l_Trade___init__ : K.lookup fa_Trade___init__ = some ⟨oc_Trade___init__, od_Trade___init__, .func (PySem.W.fnOf "__init__" "Trade.__init__" (defArgs s_Trade___init__) (defBody s_Trade___init__) (defScope s_Trade___init__) .none kV_Trade___init__ dc_Trade___init__ pm_Trade___init__ an_Trade___init__ cd_Trade___init__ ct_Trade___init__), sl_Trade___init__⟩)
    (c_Trade___init__ : PySem.W.codeIn K cd_Trade___init__ "Trade.__init__" = true)
    (k_Trade___init__ : PySem.W.keepIn K (.ref fa_Trade___init__) = true)
    (a_Trade_letters : PySem.W.findIn K (.ref C_Trade) "letters" = some (some (.ref pr_letters)))
    (g_Trade_letters : PySem.W.specialIn K (.ref pr_letters) "__get__" = some (some (.builtin "property.__get__")))
    (t_Trade_letters : PySem.W.takesIn K (.ref pr_letters) = some true)
    (r_Trade_letters : PySem.W.recIn K pr_letters "property" = some (.ref fa_Trade_letters :: rest_letters))
    (l_Trade_letters : K.lookup fa_Trade_letters = some ⟨oc_Trade_letters, od_Trade_letters, .func (PySem.W.fnOf "letters" "Trade.letters" (defArgs s_Trade_letters) (defBody s_Trade_letters) (defScope s_Trade_letters) .none kV_Trade_letters dc_Trade_letters pm_Trade_letters an_Trade_letters cd_Trade_letters ct_Trade_letters), sl_Trade_letters⟩)
    (c_Trade_letters : PySem.W.codeIn K cd_Trade_letters "Trade.letters" = true)
    (k_Trade_letters : PySem.W.keepIn K (.ref fa_Trade_letters) = true)
    (a_Trade_pairs : PySem.W.findIn K (.ref C_Trade) "pairs" = some (some (.ref pr_pairs)))
    (g_Trade_pairs : PySem.W.specialIn K (.ref pr_pairs) "__get__" = some (some (.builtin "property.__get__")))
    (t_Trade_pairs : PySem.W.takesIn K (.ref pr_pairs) = some true)
    (r_Trade_pairs : PySem.W.recIn K pr_pairs "property" = some (.ref fa_Trade_pairs :: rest_pairs))
    (l_Trade_pairs : K.lookup fa_Trade_pairs = some ⟨oc_Trade_pairs, od_Trade_pairs, .func (PySem.W.fnOf "pairs" "Trade.pairs" (defArgs s_Trade_pairs) (defBody s_Trade_pairs) (defScope s_Trade_pairs) .none kV_Trade_pairs dc_Trade_pairs pm_Trade_pairs an_Trade_pairs cd_Trade_pairs ct_Trade_pairs), sl_Trade_pairs⟩)
    (c_Trade_pairs : PySem.W.codeIn K cd_Trade_pairs "Trade.pairs" = true)
    (k_Trade_pairs : PySem.W.keepIn K (.ref fa_Trade_pairs) = true)
    (a_Trade___eq__ : PySem.W.findIn K (.ref C_Trade) "__eq__" = some (some (.ref fa_Trade___eq__)))
    (i_Trade___eq__ : PySem.W.isFn K (.ref fa_Trade___eq__) = true)
    (l_Trade___eq__ : K.lookup fa_Trade___eq__ = some ⟨oc_Trade___eq__, od_Trade___eq__, .func (PySem.W.fnOf "__eq__" "Trade.__eq__" (defArgs s_Trade___eq__) (defBody s_Trade___eq__) (defScope s_Trade___eq__) .none kV_Trade___eq__ dc_Trade___eq__ pm_Trade___eq__ an_Trade___eq__ cd_Trade___eq__ ct_Trade___eq__), sl_Trade___eq__⟩)
    (c_Trade___eq__ : PySem.W.codeIn K cd_Trade___eq__ "Trade.__eq__" = true)
    (k_Trade___eq__ : PySem.W.keepIn K (.ref fa_Trade___eq__) = true)
    (a_check_trade : PySem.W.nsIn K mainGlobals "check_trade" = some (some (.ref fa_check_trade)))
    (l_check_trade : K.lookup fa_check_trade = some ⟨oc_check_trade, od_check_trade, .func (PySem.W.fnOf "check_trade" "check_trade" (defArgs s_check_trade) (defBody s_check_trade) (defScope s_check_trade) .none kV_check_trade dc_check_trade pm_check_trade an_check_trade cd_check_trade ct_check_trade), sl_check_trade⟩)
    (c_check_trade : PySem.W.codeIn K cd_check_trade "check_trade" = true)
    (k_check_trade : PySem.W.keepIn K (.ref fa_check_trade) = true)
    (a_may_change : PySem.W.nsIn K mainGlobals "may_change" = some (some (.ref fa_may_change)))
    (l_may_change : K.lookup fa_may_change = some ⟨oc_may_change, od_may_change, .func (PySem.W.fnOf "may_change" "may_change" (defArgs s_may_change) (defBody s_may_change) (defScope s_may_change) .none kV_may_change dc_may_change pm_may_change an_may_change cd_may_change ct_may_change), sl_may_change⟩)
    (c_may_change : PySem.W.codeIn K cd_may_change "may_change" = true)
    (k_may_change : PySem.W.keepIn K (.ref fa_may_change) = true)
    (a_bars_of : PySem.W.nsIn K mainGlobals "bars_of" = some (some (.ref fa_bars_of)))
    (l_bars_of : K.lookup fa_bars_of = some ⟨oc_bars_of, od_bars_of, .func (PySem.W.fnOf "bars_of" "bars_of" (defArgs s_bars_of) (defBody s_bars_of) (defScope s_bars_of) .none kV_bars_of dc_bars_of pm_bars_of an_bars_of cd_bars_of ct_bars_of), sl_bars_of⟩)
    (c_bars_of : PySem.W.codeIn K cd_bars_of "bars_of" = true)
    (k_bars_of : PySem.W.keepIn K (.ref fa_bars_of) = true)
    (a_all_groups : PySem.W.nsIn K mainGlobals "all_groups" = some (some (.ref fa_all_groups)))
    (l_all_groups : K.lookup fa_all_groups = some ⟨oc_all_groups, od_all_groups, .func (PySem.W.fnOf "all_groups" "all_groups" (defArgs s_all_groups) (defBody s_all_groups) (defScope s_all_groups) .none kV_all_groups dc_all_groups pm_all_groups an_all_groups cd_all_groups ct_all_groups), sl_all_groups⟩)
    (c_all_groups : PySem.W.codeIn K cd_all_groups "all_groups" = true)
    (k_all_groups : PySem.W.keepIn K (.ref fa_all_groups) = true)
    (a_may_join : PySem.W.nsIn K mainGlobals "may_join" = some (some (.ref fa_may_join)))
    (l_may_join : K.lookup fa_may_join = some ⟨oc_may_join, od_may_join, .func (PySem.W.fnOf "may_join" "may_join" (defArgs s_may_join) (defBody s_may_join) (defScope s_may_join) .none kV_may_join dc_may_join pm_may_join an_may_join cd_may_join ct_may_join), sl_may_join⟩)
    (c_may_join : PySem.W.codeIn K cd_may_join "may_join" = true)
    (k_may_join : PySem.W.keepIn K (.ref fa_may_join) = true)
    (a_signed_counts : PySem.W.nsIn K mainGlobals "signed_counts" = some (some (.ref fa_signed_counts)))
    (l_signed_counts : K.lookup fa_signed_counts = some ⟨oc_signed_counts, od_signed_counts, .func (PySem.W.fnOf "signed_counts" "signed_counts" (defArgs s_signed_counts) (defBody s_signed_counts) (defScope s_signed_counts) .none kV_signed_counts dc_signed_counts pm_signed_counts an_signed_counts cd_signed_counts ct_signed_counts), sl_signed_counts⟩)
    (c_signed_counts : PySem.W.codeIn K cd_signed_counts "signed_counts" = true)
    (k_signed_counts : PySem.W.keepIn K (.ref fa_signed_counts) = true)
    (a_sign : PySem.W.nsIn K mainGlobals "sign" = some (some (.ref fa_sign)))
    (l_sign : K.lookup fa_sign = some ⟨oc_sign, od_sign, .func (PySem.W.fnOf "sign" "sign" (defArgs s_sign) (defBody s_sign) (defScope s_sign) .none kV_sign dc_sign pm_sign an_sign cd_sign ct_sign), sl_sign⟩)
    (c_sign : PySem.W.codeIn K cd_sign "sign" = true)
    (k_sign : PySem.W.keepIn K (.ref fa_sign) = true)
    (a_how_many : PySem.W.nsIn K mainGlobals "how_many" = some (some (.ref fa_how_many)))
    (l_how_many : K.lookup fa_how_many = some ⟨oc_how_many, od_how_many, .func (PySem.W.fnOf "how_many" "how_many" (defArgs s_how_many) (defBody s_how_many) (defScope s_how_many) .none kV_how_many dc_how_many pm_how_many an_how_many cd_how_many ct_how_many), sl_how_many⟩)
    (c_how_many : PySem.W.codeIn K cd_how_many "how_many" = true)
    (k_how_many : PySem.W.keepIn K (.ref fa_how_many) = true)
    (a_is_row : PySem.W.nsIn K mainGlobals "is_row" = some (some (.ref fa_is_row)))
    (l_is_row : K.lookup fa_is_row = some ⟨oc_is_row, od_is_row, .func (PySem.W.fnOf "is_row" "is_row" (defArgs s_is_row) (defBody s_is_row) (defScope s_is_row) .none kV_is_row dc_is_row pm_is_row an_is_row cd_is_row ct_is_row), sl_is_row⟩)
    (c_is_row : PySem.W.codeIn K cd_is_row "is_row" = true)
    (k_is_row : PySem.W.keepIn K (.ref fa_is_row) = true)
    (a_check_row : PySem.W.nsIn K mainGlobals "check_row" = some (some (.ref fa_check_row)))
    (l_check_row : K.lookup fa_check_row = some ⟨oc_check_row, od_check_row, .func (PySem.W.fnOf "check_row" "check_row" (defArgs s_check_row) (defBody s_check_row) (defScope s_check_row) .none kV_check_row dc_check_row pm_check_row an_check_row cd_check_row ct_check_row), sl_check_row⟩)
    (c_check_row : PySem.W.codeIn K cd_check_row "check_row" = true)
    (k_check_row : PySem.W.keepIn K (.ref fa_check_row) = true)
    (a_least : PySem.W.nsIn K mainGlobals "least" = some (some (.ref fa_least)))
    (l_least : K.lookup fa_least = some ⟨oc_least, od_least, .func (PySem.W.fnOf "least" "least" (defArgs s_least) (defBody s_least) (defScope s_least) .none kV_least dc_least pm_least an_least cd_least ct_least), sl_least⟩)
    (c_least : PySem.W.codeIn K cd_least "least" = true)
    (k_least : PySem.W.keepIn K (.ref fa_least) = true)
    (a_first_letters : PySem.W.nsIn K mainGlobals "first_letters" = some (some (.ref fa_first_letters)))
    (l_first_letters : K.lookup fa_first_letters = some ⟨oc_first_letters, od_first_letters, .func (PySem.W.fnOf "first_letters" "first_letters" (defArgs s_first_letters) (defBody s_first_letters) (defScope s_first_letters) .none kV_first_letters dc_first_letters pm_first_letters an_first_letters cd_first_letters ct_first_letters), sl_first_letters⟩)
    (c_first_letters : PySem.W.codeIn K cd_first_letters "first_letters" = true)
    (k_first_letters : PySem.W.keepIn K (.ref fa_first_letters) = true)
    (a_without : PySem.W.nsIn K mainGlobals "without" = some (some (.ref fa_without)))
    (l_without : K.lookup fa_without = some ⟨oc_without, od_without, .func (PySem.W.fnOf "without" "without" (defArgs s_without) (defBody s_without) (defScope s_without) .none kV_without dc_without pm_without an_without cd_without ct_without), sl_without⟩)
    (c_without : PySem.W.codeIn K cd_without "without" = true)
    (k_without : PySem.W.keepIn K (.ref fa_without) = true)
    (a_least_of : PySem.W.nsIn K mainGlobals "least_of" = some (some (.ref fa_least_of)))
    (l_least_of : K.lookup fa_least_of = some ⟨oc_least_of, od_least_of, .func (PySem.W.fnOf "least_of" "least_of" (defArgs s_least_of) (defBody s_least_of) (defScope s_least_of) .none kV_least_of dc_least_of pm_least_of an_least_of cd_least_of ct_least_of), sl_least_of⟩)
    (c_least_of : PySem.W.codeIn K cd_least_of "least_of" = true)
    (k_least_of : PySem.W.keepIn K (.ref fa_least_of) = true)
    (a_check_counts : PySem.W.nsIn K mainGlobals "check_counts" = some (some (.ref fa_check_counts)))
    (l_check_counts : K.lookup fa_check_counts = some ⟨oc_check_counts, od_check_counts, .func (PySem.W.fnOf "check_counts" "check_counts" (defArgs s_check_counts) (defBody s_check_counts) (defScope s_check_counts) .none kV_check_counts dc_check_counts pm_check_counts an_check_counts cd_check_counts ct_check_counts), sl_check_counts⟩)
    (c_check_counts : PySem.W.codeIn K cd_check_counts "check_counts" = true)
    (k_check_counts : PySem.W.keepIn K (.ref fa_check_counts) = true)
    (a_how_many_with : PySem.W.nsIn K mainGlobals "how_many_with" = some (some (.ref fa_how_many_with)))
    (l_how_many_with : K.lookup fa_how_many_with = some ⟨oc_how_many_with, od_how_many_with, .func (PySem.W.fnOf "how_many_with" "how_many_with" (defArgs s_how_many_with) (defBody s_how_many_with) (defScope s_how_many_with) .none kV_how_many_with dc_how_many_with pm_how_many_with an_how_many_with cd_how_many_with ct_how_many_with), sl_how_many_with⟩)
    (c_how_many_with : PySem.W.codeIn K cd_how_many_with "how_many_with" = true)
    (k_how_many_with : PySem.W.keepIn K (.ref fa_how_many_with) = true)
    (a_choices_up_to : PySem.W.nsIn K mainGlobals "choices_up_to" = some (some (.ref fa_choices_up_to)))
    (l_choices_up_to : K.lookup fa_choices_up_to = some ⟨oc_choices_up_to, od_choices_up_to, .func (PySem.W.fnOf "choices_up_to" "choices_up_to" (defArgs s_choices_up_to) (defBody s_choices_up_to) (defScope s_choices_up_to) .none kV_choices_up_to dc_choices_up_to pm_choices_up_to an_choices_up_to cd_choices_up_to ct_choices_up_to), sl_choices_up_to⟩)
    (c_choices_up_to : PySem.W.codeIn K cd_choices_up_to "choices_up_to" = true)
    (k_choices_up_to : PySem.W.keepIn K (.ref fa_choices_up_to) = true)
    (a_groups_within : PySem.W.nsIn K mainGlobals "groups_within" = some (some (.ref fa_groups_within)))
    (l_groups_within : K.lookup fa_groups_within = some ⟨oc_groups_within, od_groups_within, .func (PySem.W.fnOf "groups_within" "groups_within" (defArgs s_groups_within) (defBody s_groups_within) (defScope s_groups_within) .none kV_groups_within dc_groups_within pm_groups_within an_groups_within cd_groups_within ct_groups_within), sl_groups_within⟩)
    (c_groups_within : PySem.W.codeIn K cd_groups_within "groups_within" = true)
    (k_groups_within : PySem.W.keepIn K (.ref fa_groups_within) = true)
    (a_bits_of : PySem.W.nsIn K mainGlobals "bits_of" = some (some (.ref fa_bits_of)))
    (l_bits_of : K.lookup fa_bits_of = some ⟨oc_bits_of, od_bits_of, .func (PySem.W.fnOf "bits_of" "bits_of" (defArgs s_bits_of) (defBody s_bits_of) (defScope s_bits_of) .none kV_bits_of dc_bits_of pm_bits_of an_bits_of cd_bits_of ct_bits_of), sl_bits_of⟩)
    (c_bits_of : PySem.W.codeIn K cd_bits_of "bits_of" = true)
    (k_bits_of : PySem.W.keepIn K (.ref fa_bits_of) = true)
    (a_far_back : PySem.W.nsIn K mainGlobals "far_back" = some (some (.ref fa_far_back)))
    (l_far_back : K.lookup fa_far_back = some ⟨oc_far_back, od_far_back, .func (PySem.W.fnOf "far_back" "far_back" (defArgs s_far_back) (defBody s_far_back) (defScope s_far_back) .none kV_far_back dc_far_back pm_far_back an_far_back cd_far_back ct_far_back), sl_far_back⟩)
    (c_far_back : PySem.W.codeIn K cd_far_back "far_back" = true)
    (k_far_back : PySem.W.keepIn K (.ref fa_far_back) = true)
    (a_least_with : PySem.W.nsIn K mainGlobals "least_with" = some (some (.ref fa_least_with)))
    (l_least_with : K.lookup fa_least_with = some ⟨oc_least_with, od_least_with, .func (PySem.W.fnOf "least_with" "least_with" (defArgs s_least_with) (defBody s_least_with) (defScope s_least_with) .none kV_least_with dc_least_with pm_least_with an_least_with cd_least_with ct_least_with), sl_least_with⟩)
    (c_least_with : PySem.W.codeIn K cd_least_with "least_with" = true)
    (k_least_with : PySem.W.keepIn K (.ref fa_least_with) = true)
    (a__law_mix : PySem.W.nsIn K mainGlobals "_law_mix" = some (some (.ref fa__law_mix)))
    (l__law_mix : K.lookup fa__law_mix = some ⟨oc__law_mix, od__law_mix, .func (PySem.W.fnOf "_law_mix" "_law_mix" (defArgs s__law_mix) (defBody s__law_mix) (defScope s__law_mix) .none kV__law_mix dc__law_mix pm__law_mix an__law_mix cd__law_mix ct__law_mix), sl__law_mix⟩)
    (c__law_mix : PySem.W.codeIn K cd__law_mix "_law_mix" = true)
    (k__law_mix : PySem.W.keepIn K (.ref fa__law_mix) = true)
    (a__law_next : PySem.W.nsIn K mainGlobals "_law_next" = some (some (.ref fa__law_next)))
    (l__law_next : K.lookup fa__law_next = some ⟨oc__law_next, od__law_next, .func (PySem.W.fnOf "_law_next" "_law_next" (defArgs s__law_next) (defBody s__law_next) (defScope s__law_next) .none kV__law_next dc__law_next pm__law_next an__law_next cd__law_next ct__law_next), sl__law_next⟩)
    (c__law_next : PySem.W.codeIn K cd__law_next "_law_next" = true)
    (k__law_next : PySem.W.keepIn K (.ref fa__law_next) = true)
    (a__law_pairs : PySem.W.nsIn K mainGlobals "_law_pairs" = some (some (.ref fa__law_pairs)))
    (l__law_pairs : K.lookup fa__law_pairs = some ⟨oc__law_pairs, od__law_pairs, .func (PySem.W.fnOf "_law_pairs" "_law_pairs" (defArgs s__law_pairs) (defBody s__law_pairs) (defScope s__law_pairs) .none kV__law_pairs dc__law_pairs pm__law_pairs an__law_pairs cd__law_pairs ct__law_pairs), sl__law_pairs⟩)
    (c__law_pairs : PySem.W.codeIn K cd__law_pairs "_law_pairs" = true)
    (k__law_pairs : PySem.W.keepIn K (.ref fa__law_pairs) = true)
    (a__law_may : PySem.W.nsIn K mainGlobals "_law_may" = some (some (.ref fa__law_may)))
    (l__law_may : K.lookup fa__law_may = some ⟨oc__law_may, od__law_may, .func (PySem.W.fnOf "_law_may" "_law_may" (defArgs s__law_may) (defBody s__law_may) (defScope s__law_may) .none kV__law_may dc__law_may pm__law_may an__law_may cd__law_may ct__law_may), sl__law_may⟩)
    (c__law_may : PySem.W.codeIn K cd__law_may "_law_may" = true)
    (k__law_may : PySem.W.keepIn K (.ref fa__law_may) = true)
    (a__law_rows : PySem.W.nsIn K mainGlobals "_law_rows" = some (some (.ref fa__law_rows)))
    (l__law_rows : K.lookup fa__law_rows = some ⟨oc__law_rows, od__law_rows, .func (PySem.W.fnOf "_law_rows" "_law_rows" (defArgs s__law_rows) (defBody s__law_rows) (defScope s__law_rows) .none kV__law_rows dc__law_rows pm__law_rows an__law_rows cd__law_rows ct__law_rows), sl__law_rows⟩)
    (c__law_rows : PySem.W.codeIn K cd__law_rows "_law_rows" = true)
    (k__law_rows : PySem.W.keepIn K (.ref fa__law_rows) = true)
    (a__law_all_counts : PySem.W.nsIn K mainGlobals "_law_all_counts" = some (some (.ref fa__law_all_counts)))
    (l__law_all_counts : K.lookup fa__law_all_counts = some ⟨oc__law_all_counts, od__law_all_counts, .func (PySem.W.fnOf "_law_all_counts" "_law_all_counts" (defArgs s__law_all_counts) (defBody s__law_all_counts) (defScope s__law_all_counts) .none kV__law_all_counts dc__law_all_counts pm__law_all_counts an__law_all_counts cd__law_all_counts ct__law_all_counts), sl__law_all_counts⟩)
    (c__law_all_counts : PySem.W.codeIn K cd__law_all_counts "_law_all_counts" = true)
    (k__law_all_counts : PySem.W.keepIn K (.ref fa__law_all_counts) = true)
    (a__law_many : PySem.W.nsIn K mainGlobals "_law_many" = some (some (.ref fa__law_many)))
    (l__law_many : K.lookup fa__law_many = some ⟨oc__law_many, od__law_many, .func (PySem.W.fnOf "_law_many" "_law_many" (defArgs s__law_many) (defBody s__law_many) (defScope s__law_many) .none kV__law_many dc__law_many pm__law_many an__law_many cd__law_many ct__law_many), sl__law_many⟩)
    (c__law_many : PySem.W.codeIn K cd__law_many "_law_many" = true)
    (k__law_many : PySem.W.keepIn K (.ref fa__law_many) = true)
    (a__law_far : PySem.W.nsIn K mainGlobals "_law_far" = some (some (.ref fa__law_far)))
    (l__law_far : K.lookup fa__law_far = some ⟨oc__law_far, od__law_far, .func (PySem.W.fnOf "_law_far" "_law_far" (defArgs s__law_far) (defBody s__law_far) (defScope s__law_far) .none kV__law_far dc__law_far pm__law_far an__law_far cd__law_far ct__law_far), sl__law_far⟩)
    (c__law_far : PySem.W.codeIn K cd__law_far "_law_far" = true)
    (k__law_far : PySem.W.keepIn K (.ref fa__law_far) = true)
    (a_law : PySem.W.nsIn K mainGlobals "law" = some (some (.ref fa_law)))
    (l_law : K.lookup fa_law = some ⟨oc_law, od_law, .func (PySem.W.fnOf "law" "law" (defArgs s_law) (defBody s_law) (defScope s_law) .none kV_law dc_law pm_law an_law cd_law ct_law), sl_law⟩)
    (c_law : PySem.W.codeIn K cd_law "law" = true)
    (k_law : PySem.W.keepIn K (.ref fa_law) = true)
    (z_all : PySem.W.nsIn K mainGlobals "all" = some none)
    (z_bool : PySem.W.nsIn K mainGlobals "bool" = some none)
    (z_enumerate : PySem.W.nsIn K mainGlobals "enumerate" = some none)
    (z_int : PySem.W.nsIn K mainGlobals "int" = some none)
    (z_isinstance : PySem.W.nsIn K mainGlobals "isinstance" = some none)
    (z_len : PySem.W.nsIn K mainGlobals "len" = some none)
    (z_list : PySem.W.nsIn K mainGlobals "list" = some none)
    (z_max : PySem.W.nsIn K mainGlobals "max" = some none)
    (z_min : PySem.W.nsIn K mainGlobals "min" = some none)
    (z_range : PySem.W.nsIn K mainGlobals "range" = some none)
    (z_set : PySem.W.nsIn K mainGlobals "set" = some none)
    (z_sorted : PySem.W.nsIn K mainGlobals "sorted" = some none)
    (z_sum : PySem.W.nsIn K mainGlobals "sum" = some none)
    (z_tuple : PySem.W.nsIn K mainGlobals "tuple" = some none)
    (v_MOST_LETTERS : PySem.W.nsIn K mainGlobals "MOST_LETTERS" = some (some (.int 6 tk_MOST_LETTERS)))
    (v_MOST_LENGTH : PySem.W.nsIn K mainGlobals "MOST_LENGTH" = some (some (.int 500 tk_MOST_LENGTH)))
    (v_MOST_IN_ROW : PySem.W.nsIn K mainGlobals "MOST_IN_ROW" = some (some (.int 20 tk_MOST_IN_ROW)))
    (v_MOST_OF_ONE : PySem.W.nsIn K mainGlobals "MOST_OF_ONE" = some (some (.int 12 tk_MOST_OF_ONE)))
    (v_MOST_TOGETHER : PySem.W.nsIn K mainGlobals "MOST_TOGETHER" = some (some (.int 40 tk_MOST_TOGETHER)))
    (pg : PySem.W.plainGet K C_Trade Str.empty = true)
    (hd : PySem.W.hasDictIn K C_Trade = true)
    (po : PySem.W.plainOver K C_Trade = true)
    (sa : PySem.W.findIn K (.ref C_Trade) "__setattr__" = some (some (.builtin "object.__setattr__")))
    (mk : PySem.W.makesIn K C_Trade = true)
    (kc : PySem.W.keepIn K (.ref C_Trade) = true)
    (nl : PySem.W.findIn K (.ref C_Trade) "_letters" = some none)
    (np : PySem.W.findIn K (.ref C_Trade) "_pairs" = some none)
    (ha : PySem.W.findIn K (.ref C_Trade) "__class__" = some (some (.builtin "object.__class__")))
    (hn : PySem.W.specialIn K (.builtin "object.__class__") "__get__" = some (some (.builtin "getset_descriptor.__get__")))
    (htk : PySem.W.takesIn K (.builtin "object.__class__") = some true)
    (hm : PySem.W.mroIn K C_Trade (.type "object") = some true)
    (me : PySem.W.kitOne K (.ref C_Trade) (.ref C_Trade) = some true)
    (nt : PySem.W.kitOne K (.type "tuple") (.ref C_Trade) = some false)
    (nf : PySem.W.notFirst K C_Trade (.type "tuple") = true)
    : ∃ fd : FuncData, (∀ (s : Shared) (v : Value), BindsTo s fd ⟨[v], []⟩ [("_law_script", v)]) ∧ ∀ base : Heap, K.In base → base.Ns mainGlobals mg → FnOk P w K mg base CX0 90 fa fd ["_law_script"] (spLaw K) := by
  have e := hfa.symm.trans (PySem.W.mg_of X G a_law)
  obtain rfl : fa_law = fa := by
    cases e
    rfl
  have F_is_whole := fun_mk (st := s_is_whole) l_is_whole c_is_whole k_is_whole
  have b_is_whole := F_is_whole.binds (ps := ["value", "low", "high"]) fun _ _ _ _ _ _ us hl => match us, hl with | [_, _, _], _ => rfl
  have F_is_letter := fun_mk (st := s_is_letter) l_is_letter c_is_letter k_is_letter
  have b_is_letter := F_is_letter.binds (ps := ["letters", "value"]) fun _ _ _ _ _ _ us hl => match us, hl with | [_, _], _ => rfl
  have F_is_pair := fun_mk (st := s_is_pair) l_is_pair c_is_pair k_is_pair
  have b_is_pair := F_is_pair.binds (ps := ["letters", "value"]) fun _ _ _ _ _ _ us hl => match us, hl with | [_, _], _ => rfl
  have F_check_pairs := fun_mk (st := s_check_pairs) l_check_pairs c_check_pairs k_check_pairs
  have b_check_pairs := F_check_pairs.binds (ps := ["letters", "pairs"]) fun _ _ _ _ _ _ us hl => match us, hl with | [_, _], _ => rfl
  have F_Trade___init__ := fun_mk (st := s_Trade___init__) l_Trade___init__ c_Trade___init__ k_Trade___init__
  have b_Trade___init__ := F_Trade___init__.binds (ps := ["self", "letters", "pairs"]) fun _ _ _ _ _ _ us hl => match us, hl with | [_, _, _], _ => rfl
  have F_Trade_letters := fun_mk (st := s_Trade_letters) l_Trade_letters c_Trade_letters k_Trade_letters
  have b_Trade_letters := F_Trade_letters.binds (ps := ["self"]) fun _ _ _ _ _ _ us hl => match us, hl with | [_], _ => rfl
  have F_Trade_pairs := fun_mk (st := s_Trade_pairs) l_Trade_pairs c_Trade_pairs k_Trade_pairs
  have b_Trade_pairs := F_Trade_pairs.binds (ps := ["self"]) fun _ _ _ _ _ _ us hl => match us, hl with | [_], _ => rfl
  have F_Trade___eq__ := fun_mk (st := s_Trade___eq__) l_Trade___eq__ c_Trade___eq__ k_Trade___eq__
  have b_Trade___eq__ := F_Trade___eq__.binds (ps := ["self", "other"]) fun _ _ _ _ _ _ us hl => match us, hl with | [_, _], _ => rfl
  have F_check_trade := fun_mk (st := s_check_trade) l_check_trade c_check_trade k_check_trade
  have b_check_trade := F_check_trade.binds (ps := ["trade"]) fun _ _ _ _ _ _ us hl => match us, hl with | [_], _ => rfl
  have F_may_change := fun_mk (st := s_may_change) l_may_change c_may_change k_may_change
  have b_may_change := F_may_change.binds (ps := ["trade", "one", "other"]) fun _ _ _ _ _ _ us hl => match us, hl with | [_, _, _], _ => rfl
  have F_bars_of := fun_mk (st := s_bars_of) l_bars_of c_bars_of k_bars_of
  have b_bars_of := F_bars_of.binds (ps := ["trade"]) fun _ _ _ _ _ _ us hl => match us, hl with | [_], _ => rfl
  have F_all_groups := fun_mk (st := s_all_groups) l_all_groups c_all_groups k_all_groups
  have b_all_groups := F_all_groups.binds (ps := ["trade"]) fun _ _ _ _ _ _ us hl => match us, hl with | [_], _ => rfl
  have F_may_join := fun_mk (st := s_may_join) l_may_join c_may_join k_may_join
  have b_may_join := F_may_join.binds (ps := ["trade", "group", "letter"]) fun _ _ _ _ _ _ us hl => match us, hl with | [_, _, _], _ => rfl
  have F_signed_counts := fun_mk (st := s_signed_counts) l_signed_counts c_signed_counts k_signed_counts
  have b_signed_counts := F_signed_counts.binds (ps := ["trade"]) fun _ _ _ _ _ _ us hl => match us, hl with | [_], _ => rfl
  have F_sign := fun_mk (st := s_sign) l_sign c_sign k_sign
  have b_sign := F_sign.binds (ps := ["number"]) fun _ _ _ _ _ _ us hl => match us, hl with | [_], _ => rfl
  have F_how_many := fun_mk (st := s_how_many) l_how_many c_how_many k_how_many
  have b_how_many := F_how_many.binds (ps := ["trade", "length"]) fun _ _ _ _ _ _ us hl => match us, hl with | [_, _], _ => rfl
  have F_is_row := fun_mk (st := s_is_row) l_is_row c_is_row k_is_row
  have b_is_row := F_is_row.binds (ps := ["letters", "value"]) fun _ _ _ _ _ _ us hl => match us, hl with | [_, _], _ => rfl
  have F_check_row := fun_mk (st := s_check_row) l_check_row c_check_row k_check_row
  have b_check_row := F_check_row.binds (ps := ["trade", "row"]) fun _ _ _ _ _ _ us hl => match us, hl with | [_, _], _ => rfl
  have F_least := fun_mk (st := s_least) l_least c_least k_least
  have b_least := F_least.binds (ps := ["trade", "row"]) fun _ _ _ _ _ _ us hl => match us, hl with | [_, _], _ => rfl
  have F_first_letters := fun_mk (st := s_first_letters) l_first_letters c_first_letters k_first_letters
  have b_first_letters := F_first_letters.binds (ps := ["bars", "row"]) fun _ _ _ _ _ _ us hl => match us, hl with | [_, _], _ => rfl
  have F_without := fun_mk (st := s_without) l_without c_without k_without
  have b_without := F_without.binds (ps := ["row", "place"]) fun _ _ _ _ _ _ us hl => match us, hl with | [_, _], _ => rfl
  have F_least_of := fun_mk (st := s_least_of) l_least_of c_least_of k_least_of
  have b_least_of := F_least_of.binds (ps := ["bars", "row"]) fun _ _ _ _ _ _ us hl => match us, hl with | [_, _], _ => rfl
  have F_check_counts := fun_mk (st := s_check_counts) l_check_counts c_check_counts k_check_counts
  have b_check_counts := F_check_counts.binds (ps := ["trade", "counts"]) fun _ _ _ _ _ _ us hl => match us, hl with | [_, _], _ => rfl
  have F_how_many_with := fun_mk (st := s_how_many_with) l_how_many_with c_how_many_with k_how_many_with
  have b_how_many_with := F_how_many_with.binds (ps := ["trade", "counts"]) fun _ _ _ _ _ _ us hl => match us, hl with | [_, _], _ => rfl
  have F_choices_up_to := fun_mk (st := s_choices_up_to) l_choices_up_to c_choices_up_to k_choices_up_to
  have b_choices_up_to := F_choices_up_to.binds (ps := ["counts"]) fun _ _ _ _ _ _ us hl => match us, hl with | [_], _ => rfl
  have F_groups_within := fun_mk (st := s_groups_within) l_groups_within c_groups_within k_groups_within
  have b_groups_within := F_groups_within.binds (ps := ["trade", "counts"]) fun _ _ _ _ _ _ us hl => match us, hl with | [_, _], _ => rfl
  have F_bits_of := fun_mk (st := s_bits_of) l_bits_of c_bits_of k_bits_of
  have b_bits_of := F_bits_of.binds (ps := ["group"]) fun _ _ _ _ _ _ us hl => match us, hl with | [_], _ => rfl
  have F_far_back := fun_mk (st := s_far_back) l_far_back c_far_back k_far_back
  have b_far_back := F_far_back.binds (ps := ["counts", "group"]) fun _ _ _ _ _ _ us hl => match us, hl with | [_, _], _ => rfl
  have F_least_with := fun_mk (st := s_least_with) l_least_with c_least_with k_least_with
  have b_least_with := F_least_with.binds (ps := ["trade", "counts"]) fun _ _ _ _ _ _ us hl => match us, hl with | [_, _], _ => rfl
  have F__law_mix := fun_mk (st := s__law_mix) l__law_mix c__law_mix k__law_mix
  have b__law_mix := F__law_mix.binds (ps := ["_law_script", "_law_seed"]) fun _ _ _ _ _ _ us hl => match us, hl with | [_, _], _ => rfl
  have F__law_next := fun_mk (st := s__law_next) l__law_next c__law_next k__law_next
  have b__law_next := F__law_next.binds (ps := ["_law_h", "_law_bound"]) fun _ _ _ _ _ _ us hl => match us, hl with | [_, _], _ => rfl
  have F__law_pairs := fun_mk (st := s__law_pairs) l__law_pairs c__law_pairs k__law_pairs
  have b__law_pairs := F__law_pairs.binds (ps := ["_law_h", "_law_letters"]) fun _ _ _ _ _ _ us hl => match us, hl with | [_, _], _ => rfl
  have F__law_may := fun_mk (st := s__law_may) l__law_may c__law_may k__law_may
  have b__law_may := F__law_may.binds (ps := ["_law_pairs_here", "_law_a", "_law_b"]) fun _ _ _ _ _ _ us hl => match us, hl with | [_, _, _], _ => rfl
  have F__law_rows := fun_mk (st := s__law_rows) l__law_rows c__law_rows k__law_rows
  have b__law_rows := F__law_rows.binds (ps := ["_law_counts"]) fun _ _ _ _ _ _ us hl => match us, hl with | [_], _ => rfl
  have F__law_all_counts := fun_mk (st := s__law_all_counts) l__law_all_counts c__law_all_counts k__law_all_counts
  have b__law_all_counts := F__law_all_counts.binds (ps := ["_law_letters", "_law_length"]) fun _ _ _ _ _ _ us hl => match us, hl with | [_, _], _ => rfl
  have F__law_many := fun_mk (st := s__law_many) l__law_many c__law_many k__law_many
  have b__law_many := F__law_many.binds (ps := ["_law_pairs_here", "_law_counts"]) fun _ _ _ _ _ _ us hl => match us, hl with | [_, _], _ => rfl
  have F__law_far := fun_mk (st := s__law_far) l__law_far c__law_far k__law_far
  have b__law_far := F__law_far.binds (ps := ["_law_h"]) fun _ _ _ _ _ _ us hl => match us, hl with | [_], _ => rfl
  have F_law := fun_mk (st := s_law) l_law c_law k_law
  have b_law := F_law.binds (ps := ["_law_script"]) fun _ _ _ _ _ _ us hl => match us, hl with | [_], _ => rfl
  let E : Nv K mg := {
    a_is_whole := fa_is_whole
    d_is_whole := _
    F_is_whole := F_is_whole
    b_is_whole := b_is_whole
    m_is_whole := PySem.W.mg_of X G a_is_whole
    a_is_letter := fa_is_letter
    d_is_letter := _
    F_is_letter := F_is_letter
    b_is_letter := b_is_letter
    m_is_letter := PySem.W.mg_of X G a_is_letter
    a_is_pair := fa_is_pair
    d_is_pair := _
    F_is_pair := F_is_pair
    b_is_pair := b_is_pair
    m_is_pair := PySem.W.mg_of X G a_is_pair
    a_check_pairs := fa_check_pairs
    d_check_pairs := _
    F_check_pairs := F_check_pairs
    b_check_pairs := b_check_pairs
    m_check_pairs := PySem.W.mg_of X G a_check_pairs
    a_Trade___init__ := fa_Trade___init__
    d_Trade___init__ := _
    F_Trade___init__ := F_Trade___init__
    b_Trade___init__ := b_Trade___init__
    a_Trade_letters := fa_Trade_letters
    d_Trade_letters := _
    F_Trade_letters := F_Trade_letters
    b_Trade_letters := b_Trade_letters
    a_Trade_pairs := fa_Trade_pairs
    d_Trade_pairs := _
    F_Trade_pairs := F_Trade_pairs
    b_Trade_pairs := b_Trade_pairs
    a_Trade___eq__ := fa_Trade___eq__
    d_Trade___eq__ := _
    F_Trade___eq__ := F_Trade___eq__
    b_Trade___eq__ := b_Trade___eq__
    a_check_trade := fa_check_trade
    d_check_trade := _
    F_check_trade := F_check_trade
    b_check_trade := b_check_trade
    m_check_trade := PySem.W.mg_of X G a_check_trade
    a_may_change := fa_may_change
    d_may_change := _
    F_may_change := F_may_change
    b_may_change := b_may_change
    m_may_change := PySem.W.mg_of X G a_may_change
    a_bars_of := fa_bars_of
    d_bars_of := _
    F_bars_of := F_bars_of
    b_bars_of := b_bars_of
    m_bars_of := PySem.W.mg_of X G a_bars_of
    a_all_groups := fa_all_groups
    d_all_groups := _
    F_all_groups := F_all_groups
    b_all_groups := b_all_groups
    m_all_groups := PySem.W.mg_of X G a_all_groups
    a_may_join := fa_may_join
    d_may_join := _
    F_may_join := F_may_join
    b_may_join := b_may_join
    m_may_join := PySem.W.mg_of X G a_may_join
    a_signed_counts := fa_signed_counts
    d_signed_counts := _
    F_signed_counts := F_signed_counts
    b_signed_counts := b_signed_counts
    m_signed_counts := PySem.W.mg_of X G a_signed_counts
    a_sign := fa_sign
    d_sign := _
    F_sign := F_sign
    b_sign := b_sign
    m_sign := PySem.W.mg_of X G a_sign
    a_how_many := fa_how_many
    d_how_many := _
    F_how_many := F_how_many
    b_how_many := b_how_many
    m_how_many := PySem.W.mg_of X G a_how_many
    a_is_row := fa_is_row
    d_is_row := _
    F_is_row := F_is_row
    b_is_row := b_is_row
    m_is_row := PySem.W.mg_of X G a_is_row
    a_check_row := fa_check_row
    d_check_row := _
    F_check_row := F_check_row
    b_check_row := b_check_row
    m_check_row := PySem.W.mg_of X G a_check_row
    a_least := fa_least
    d_least := _
    F_least := F_least
    b_least := b_least
    m_least := PySem.W.mg_of X G a_least
    a_first_letters := fa_first_letters
    d_first_letters := _
    F_first_letters := F_first_letters
    b_first_letters := b_first_letters
    m_first_letters := PySem.W.mg_of X G a_first_letters
    a_without := fa_without
    d_without := _
    F_without := F_without
    b_without := b_without
    m_without := PySem.W.mg_of X G a_without
    a_least_of := fa_least_of
    d_least_of := _
    F_least_of := F_least_of
    b_least_of := b_least_of
    m_least_of := PySem.W.mg_of X G a_least_of
    a_check_counts := fa_check_counts
    d_check_counts := _
    F_check_counts := F_check_counts
    b_check_counts := b_check_counts
    m_check_counts := PySem.W.mg_of X G a_check_counts
    a_how_many_with := fa_how_many_with
    d_how_many_with := _
    F_how_many_with := F_how_many_with
    b_how_many_with := b_how_many_with
    m_how_many_with := PySem.W.mg_of X G a_how_many_with
    a_choices_up_to := fa_choices_up_to
    d_choices_up_to := _
    F_choices_up_to := F_choices_up_to
    b_choices_up_to := b_choices_up_to
    m_choices_up_to := PySem.W.mg_of X G a_choices_up_to
    a_groups_within := fa_groups_within
    d_groups_within := _
    F_groups_within := F_groups_within
    b_groups_within := b_groups_within
    m_groups_within := PySem.W.mg_of X G a_groups_within
    a_bits_of := fa_bits_of
    d_bits_of := _
    F_bits_of := F_bits_of
    b_bits_of := b_bits_of
    m_bits_of := PySem.W.mg_of X G a_bits_of
    a_far_back := fa_far_back
    d_far_back := _
    F_far_back := F_far_back
    b_far_back := b_far_back
    m_far_back := PySem.W.mg_of X G a_far_back
    a_least_with := fa_least_with
    d_least_with := _
    F_least_with := F_least_with
    b_least_with := b_least_with
    m_least_with := PySem.W.mg_of X G a_least_with
    a__law_mix := fa__law_mix
    d__law_mix := _
    F__law_mix := F__law_mix
    b__law_mix := b__law_mix
    m__law_mix := PySem.W.mg_of X G a__law_mix
    a__law_next := fa__law_next
    d__law_next := _
    F__law_next := F__law_next
    b__law_next := b__law_next
    m__law_next := PySem.W.mg_of X G a__law_next
    a__law_pairs := fa__law_pairs
    d__law_pairs := _
    F__law_pairs := F__law_pairs
    b__law_pairs := b__law_pairs
    m__law_pairs := PySem.W.mg_of X G a__law_pairs
    a__law_may := fa__law_may
    d__law_may := _
    F__law_may := F__law_may
    b__law_may := b__law_may
    m__law_may := PySem.W.mg_of X G a__law_may
    a__law_rows := fa__law_rows
    d__law_rows := _
    F__law_rows := F__law_rows
    b__law_rows := b__law_rows
    m__law_rows := PySem.W.mg_of X G a__law_rows
    a__law_all_counts := fa__law_all_counts
    d__law_all_counts := _
    F__law_all_counts := F__law_all_counts
    b__law_all_counts := b__law_all_counts
    m__law_all_counts := PySem.W.mg_of X G a__law_all_counts
    a__law_many := fa__law_many
    d__law_many := _
    F__law_many := F__law_many
    b__law_many := b__law_many
    m__law_many := PySem.W.mg_of X G a__law_many
    a__law_far := fa__law_far
    d__law_far := _
    F__law_far := F__law_far
    b__law_far := b__law_far
    m__law_far := PySem.W.mg_of X G a__law_far
    a_law := fa_law
    d_law := _
    F_law := F_law
    b_law := b_law
    m_law := PySem.W.mg_of X G a_law
    C_Trade := C_Trade
    m_Trade := PySem.W.mg_of X G aC
    n_all := PySem.W.mg_none_of X G z_all
    n_bool := PySem.W.mg_none_of X G z_bool
    n_enumerate := PySem.W.mg_none_of X G z_enumerate
    n_int := PySem.W.mg_none_of X G z_int
    n_isinstance := PySem.W.mg_none_of X G z_isinstance
    n_len := PySem.W.mg_none_of X G z_len
    n_list := PySem.W.mg_none_of X G z_list
    n_max := PySem.W.mg_none_of X G z_max
    n_min := PySem.W.mg_none_of X G z_min
    n_range := PySem.W.mg_none_of X G z_range
    n_set := PySem.W.mg_none_of X G z_set
    n_sorted := PySem.W.mg_none_of X G z_sorted
    n_sum := PySem.W.mg_none_of X G z_sum
    n_tuple := PySem.W.mg_none_of X G z_tuple
    t_MOST_LETTERS := tk_MOST_LETTERS
    c_MOST_LETTERS := PySem.W.mg_of X G v_MOST_LETTERS
    t_MOST_LENGTH := tk_MOST_LENGTH
    c_MOST_LENGTH := PySem.W.mg_of X G v_MOST_LENGTH
    t_MOST_IN_ROW := tk_MOST_IN_ROW
    c_MOST_IN_ROW := PySem.W.mg_of X G v_MOST_IN_ROW
    t_MOST_OF_ONE := tk_MOST_OF_ONE
    c_MOST_OF_ONE := PySem.W.mg_of X G v_MOST_OF_ONE
    t_MOST_TOGETHER := tk_MOST_TOGETHER
    c_MOST_TOGETHER := PySem.W.mg_of X G v_MOST_TOGETHER
    cl := ⟨pg, hd, po, sa⟩
    nl := nl
    np := np
    mk_Trade := ⟨mk, a_Trade___init__, i_Trade___init__, kc⟩
    pr_l := pr_letters
    pr_p := pr_pairs
    p_letters := ⟨a_Trade_letters, g_Trade_letters, t_Trade_letters, ⟨_, r_Trade_letters⟩⟩
    p_pairs := ⟨a_Trade_pairs, g_Trade_pairs, t_Trade_pairs, ⟨_, r_Trade_pairs⟩⟩
    ic := ⟨⟨⟨pg, hd, po, sa⟩, ha, hn, htk, hm, me⟩, nt⟩
    eqf := a_Trade___eq__
    eqi := i_Trade___eq__
    nf := nf }
  exact ⟨PySem.W.fnOf "law" "law" (defArgs s_law) (defBody s_law) (defScope s_law) .none kV_law dc_law pm_law an_law cd_law ct_law, fun s v => .of_eq rfl, fun base _ _ => ok_law E⟩
theorem fz_of {K : PySem.W.Frag} {H : Hp} {a : Addr} {xs : List V} (hO : Only H) (hS : SqL K H a xs) : Fz K H a xs := by
  rcases hS with hS | hS
  · rcases hS with hS | ⟨o, hS⟩
    · rcases hO a with z | ⟨o, ys, z⟩ <;> rw [hS] at z <;> cases z
    · exact .inl ⟨o, hS⟩
  · exact .inr hS
theorem walk {l : PySem.W.OpenLaw} {q : Program} {loose : List Str} {XP : (Str → Option Value) → Heap → Prop} {YP : World → Heap → Prop} {d : DefRec} {K : Params → PySem.W.Frag} (hn : l.most = some 63) (hdf : d.params.defaults = [])
    (hY : ∀ (w : World) (h : Heap), YP w h → (K w.params).In h)
    (F : ∀ (w : World) (mg : Str → Option Value) (fa : Addr) (h : Heap), (K w.params).In h → h.Ns mainGlobals mg → mg d.name = some (.ref fa) →
      ∃ fd : FuncData, (∀ (s : Shared) (u : Value), BindsTo s fd ⟨[u], []⟩ [("_law_script", u)]) ∧ ∀ base : Heap, (K w.params).In base → base.Ns mainGlobals mg → FnOk l.prog w (K w.params) mg base CX0 90 fa fd ["_law_script"] (spLaw (K w.params))) :
    PySem.W.WalkO q loose XP YP l.row.toRowW d [] (fun f vs => PySem.call f vs) :=
  L2.walk_of (n := 63) (k := 90) (x := "_law_script") (CX := fun _ => CX0) (sp := fun w => spLaw (K w.params)) hn (by decide) hdf ⟨rfl, by decide, by decide⟩ hY F
    (fun w H a ns hl hO hS => ⟨a, ns, rfl, fz_of hO hS, hl, fun _ => rfl⟩) fun _ _ _ _ _ z => z
end K1
open PySem PySem.W PyProof.Rows
set_option maxRecDepth 100000 in
set_option maxHeartbeats 0 in
theorem PySem.Challenge.cw_placetrade_k18_whole_counts_of_letters_holds : PySem.Challenge.rw_placetrade_k18_whole_counts_of_letters.Holds := by
  w_on; o_law; k_head; (case hw => w_witness2)
  k_fill
  refine K1.walk (l := PySem.Challenge.rw_placetrade_k18_whole_counts_of_letters) rfl rfl (fun w h Y => PySem.W.kIn_of Y) ?F
  case F =>
    intro w mg fa h KX G hmg
    refine' K1.all_mk KX G hmg ?aC ?a_is_whole ?l_is_whole ?c_is_whole ?k_is_whole ?a_is_letter ?l_is_letter ?c_is_letter ?k_is_letter ?a_is_pair ?l_is_pair ?c_is_pair ?k_is_pair ?a_check_pairs ?l_check_pairs ?c_check_pairs ?k_check_pairs ?a_Trade___init__ ?i_Trade___init__ ?l_Trade___init__ ?c_Trade___init__ ?k_Trade___init__ ?a_Trade_letters ?g_Trade_letters ?t_Trade_letters ?r_Trade_letters ?l_Trade_letters ?c_Trade_letters ?k_Trade_letters ?a_Trade_pairs ?g_Trade_pairs ?t_Trade_pairs ?r_Trade_pairs ?l_Trade_pairs ?c_Trade_pairs ?k_Trade_pairs ?a_Trade___eq__ ?i_Trade___eq__ ?l_Trade___eq__ ?c_Trade___eq__ ?k_Trade___eq__ ?a_check_trade ?l_check_trade ?c_check_trade ?k_check_trade ?a_may_change ?l_may_change ?c_may_change ?k_may_change ?a_bars_of ?l_bars_of ?c_bars_of ?k_bars_of ?a_all_groups ?l_all_groups ?c_all_groups ?k_all_groups ?a_may_join ?l_may_join ?c_may_join ?k_may_join ?a_signed_counts ?l_signed_counts ?c_signed_counts ?k_signed_counts ?a_sign ?l_sign ?c_sign ?k_sign ?a_how_many ?l_how_many ?c_how_many ?k_how_many ?a_is_row ?l_is_row ?c_is_row ?k_is_row ?a_check_row ?l_check_row ?c_check_row ?k_check_row ?a_least ?l_least ?c_least ?k_least ?a_first_letters ?l_first_letters ?c_first_letters ?k_first_letters ?a_without ?l_without ?c_without ?k_without ?a_least_of ?l_least_of ?c_least_of ?k_least_of ?a_check_counts ?l_check_counts ?c_check_counts ?k_check_counts ?a_how_many_with ?l_how_many_with ?c_how_many_with ?k_how_many_with ?a_choices_up_to ?l_choices_up_to ?c_choices_up_to ?k_choices_up_to ?a_groups_within ?l_groups_within ?c_groups_within ?k_groups_within ?a_bits_of ?l_bits_of ?c_bits_of ?k_bits_of ?a_far_back ?l_far_back ?c_far_back ?k_far_back ?a_least_with ?l_least_with ?c_least_with ?k_least_with ?a__law_mix ?l__law_mix ?c__law_mix ?k__law_mix ?a__law_next ?l__law_next ?c__law_next ?k__law_next ?a__law_pairs ?l__law_pairs ?c__law_pairs ?k__law_pairs ?a__law_may ?l__law_may ?c__law_may ?k__law_may ?a__law_rows ?l__law_rows ?c__law_rows ?k__law_rows ?a__law_all_counts ?l__law_all_counts ?c__law_all_counts ?k__law_all_counts ?a__law_many ?l__law_many ?c__law_many ?k__law_many ?a__law_far ?l__law_far ?c__law_far ?k__law_far ?a_law ?l_law ?c_law ?k_law ?z_all ?z_bool ?z_enumerate ?z_int ?z_isinstance ?z_len ?z_list ?z_max ?z_min ?z_range ?z_set ?z_sorted ?z_sum ?z_tuple ?v_MOST_LETTERS ?v_MOST_LENGTH ?v_MOST_IN_ROW ?v_MOST_OF_ONE ?v_MOST_TOGETHER ?pg ?hd ?po ?sa ?mk ?kc ?nl ?np ?ha ?hn ?htk ?hm ?me ?nt ?nf
    (case aC => k_is)
    (case a_is_whole => k_is)
    (case l_is_whole => k_is)
    (case c_is_whole => k_is)
    (case k_is_whole => k_is)
    (case a_is_letter => k_is)
    (case l_is_letter => k_is)
    (case c_is_letter => k_is)
    (case k_is_letter => k_is)
    (case a_is_pair => k_is)
    (case l_is_pair => k_is)
    (case c_is_pair => k_is)
    (case k_is_pair => k_is)
    (case a_check_pairs => k_is)
    (case l_check_pairs => k_is)
    (case c_check_pairs => k_is)
    (case k_check_pairs => k_is)
    (case a_Trade___init__ => k_is)
    (case i_Trade___init__ => k_is)
    (case l_Trade___init__ => k_is)
    (case c_Trade___init__ => k_is)
    (case k_Trade___init__ => k_is)
    (case a_Trade_letters => k_is)
    (case g_Trade_letters => k_is)
    (case t_Trade_letters => k_is)
    (case r_Trade_letters => k_is)
    (case l_Trade_letters => k_is)
    (case c_Trade_letters => k_is)
    (case k_Trade_letters => k_is)
    (case a_Trade_pairs => k_is)
    (case g_Trade_pairs => k_is)
    (case t_Trade_pairs => k_is)
    (case r_Trade_pairs => k_is)
    (case l_Trade_pairs => k_is)
    (case c_Trade_pairs => k_is)
    (case k_Trade_pairs => k_is)
    (case a_Trade___eq__ => k_is)
    (case i_Trade___eq__ => k_is)
    (case l_Trade___eq__ => k_is)
    (case c_Trade___eq__ => k_is)
    (case k_Trade___eq__ => k_is)
    (case a_check_trade => k_is)
    (case l_check_trade => k_is)
    (case c_check_trade => k_is)
    (case k_check_trade => k_is)
    (case a_may_change => k_is)
    (case l_may_change => k_is)
    (case c_may_change => k_is)
    (case k_may_change => k_is)
    (case a_bars_of => k_is)
    (case l_bars_of => k_is)
    (case c_bars_of => k_is)
    (case k_bars_of => k_is)
    (case a_all_groups => k_is)
    (case l_all_groups => k_is)
    (case c_all_groups => k_is)
    (case k_all_groups => k_is)
    (case a_may_join => k_is)
    (case l_may_join => k_is)
    (case c_may_join => k_is)
    (case k_may_join => k_is)
    (case a_signed_counts => k_is)
    (case l_signed_counts => k_is)
    (case c_signed_counts => k_is)
    (case k_signed_counts => k_is)
    (case a_sign => k_is)
    (case l_sign => k_is)
    (case c_sign => k_is)
    (case k_sign => k_is)
    (case a_how_many => k_is)
    (case l_how_many => k_is)
    (case c_how_many => k_is)
    (case k_how_many => k_is)
    (case a_is_row => k_is)
    (case l_is_row => k_is)
    (case c_is_row => k_is)
    (case k_is_row => k_is)
    (case a_check_row => k_is)
    (case l_check_row => k_is)
    (case c_check_row => k_is)
    (case k_check_row => k_is)
    (case a_least => k_is)
    (case l_least => k_is)
    (case c_least => k_is)
    (case k_least => k_is)
    (case a_first_letters => k_is)
    (case l_first_letters => k_is)
    (case c_first_letters => k_is)
    (case k_first_letters => k_is)
    (case a_without => k_is)
    (case l_without => k_is)
    (case c_without => k_is)
    (case k_without => k_is)
    (case a_least_of => k_is)
    (case l_least_of => k_is)
    (case c_least_of => k_is)
    (case k_least_of => k_is)
    (case a_check_counts => k_is)
    (case l_check_counts => k_is)
    (case c_check_counts => k_is)
    (case k_check_counts => k_is)
    (case a_how_many_with => k_is)
    (case l_how_many_with => k_is)
    (case c_how_many_with => k_is)
    (case k_how_many_with => k_is)
    (case a_choices_up_to => k_is)
    (case l_choices_up_to => k_is)
    (case c_choices_up_to => k_is)
    (case k_choices_up_to => k_is)
    (case a_groups_within => k_is)
    (case l_groups_within => k_is)
    (case c_groups_within => k_is)
    (case k_groups_within => k_is)
    (case a_bits_of => k_is)
    (case l_bits_of => k_is)
    (case c_bits_of => k_is)
    (case k_bits_of => k_is)
    (case a_far_back => k_is)
    (case l_far_back => k_is)
    (case c_far_back => k_is)
    (case k_far_back => k_is)
    (case a_least_with => k_is)
    (case l_least_with => k_is)
    (case c_least_with => k_is)
    (case k_least_with => k_is)
    (case a__law_mix => k_is)
    (case l__law_mix => k_is)
    (case c__law_mix => k_is)
    (case k__law_mix => k_is)
    (case a__law_next => k_is)
    (case l__law_next => k_is)
    (case c__law_next => k_is)
    (case k__law_next => k_is)
    (case a__law_pairs => k_is)
    (case l__law_pairs => k_is)
    (case c__law_pairs => k_is)
    (case k__law_pairs => k_is)
    (case a__law_may => k_is)
    (case l__law_may => k_is)
    (case c__law_may => k_is)
    (case k__law_may => k_is)
    (case a__law_rows => k_is)
    (case l__law_rows => k_is)
    (case c__law_rows => k_is)
    (case k__law_rows => k_is)
    (case a__law_all_counts => k_is)
    (case l__law_all_counts => k_is)
    (case c__law_all_counts => k_is)
    (case k__law_all_counts => k_is)
    (case a__law_many => k_is)
    (case l__law_many => k_is)
    (case c__law_many => k_is)
    (case k__law_many => k_is)
    (case a__law_far => k_is)
    (case l__law_far => k_is)
    (case c__law_far => k_is)
    (case k__law_far => k_is)
    (case a_law => k_is)
    (case l_law => k_is)
    (case c_law => k_is)
    (case k_law => k_is)
    (case z_all => k_is)
    (case z_bool => k_is)
    (case z_enumerate => k_is)
    (case z_int => k_is)
    (case z_isinstance => k_is)
    (case z_len => k_is)
    (case z_list => k_is)
    (case z_max => k_is)
    (case z_min => k_is)
    (case z_range => k_is)
    (case z_set => k_is)
    (case z_sorted => k_is)
    (case z_sum => k_is)
    (case z_tuple => k_is)
    (case v_MOST_LETTERS => k_is)
    (case v_MOST_LENGTH => k_is)
    (case v_MOST_IN_ROW => k_is)
    (case v_MOST_OF_ONE => k_is)
    (case v_MOST_TOGETHER => k_is)
    (case pg => first | k_is | rfl | decide +kernel)
    (case hd => first | k_is | rfl | decide +kernel)
    (case po => first | k_is | rfl | decide +kernel)
    (case sa => first | k_is | rfl | decide +kernel)
    (case mk => first | k_is | rfl | decide +kernel)
    (case kc => first | k_is | rfl | decide +kernel)
    (case nl => first | k_is | rfl | decide +kernel)
    (case np => first | k_is | rfl | decide +kernel)
    (case ha => first | k_is | rfl | decide +kernel)
    (case hn => first | k_is | rfl | decide +kernel)
    (case htk => first | k_is | rfl | decide +kernel)
    (case hm => first | k_is | rfl | decide +kernel)
    (case me => first | k_is | rfl | decide +kernel)
    (case nt => first | k_is | rfl | decide +kernel)
    (case nf => first | k_is | rfl | decide +kernel)
