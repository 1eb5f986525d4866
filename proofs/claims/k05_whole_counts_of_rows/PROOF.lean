import PyProof.Rows.All
import Wide.All
import OpenK.AllK
import Wide.FinOn
import HandS.ForMost
import HandS.TupAny
import HandS.TupLe
import HandS.Deep
import HandS.Property
import HandS.OwnEq
import HandS.IsInst
import HandS.More
import HandS.Steps
import HandS.Walk
import KE.GoesMore
import KE.GoesEnum
import PyProof.EnumMake
import HandS.Dict
import PyProof.SeqIndex
import HandS.Iter
import KE.KDictWalk
import HandS.Codes
import HandS.Style
import KE.SortData
import KE.DataMinMax
import PyProof.Rows.RowBridgeK
import HandS.ExcInit
import HandS.TryOnly
import HandS.WordsExc
import HandS.ExcCtx
import HandS.Conv
import HandS.SetFor
import HandS.Strs
import KE.KIndexOf
import HandS.NoneIn
import HandS.TupMul
import KE.KDictSum
import KE.KDictCopyH
import PyProof.Transfer
import HandS.Wide
import PyProof.Rows.SumAny
import HandS.CallLocal
import HandS.NamedTupGet
import PyProof.FactsLen
import HandS.TryMany
import HandS.ExcOwn
import PyProof.SliceList
import HandS.WideBits
import HandS.TupSets
import HandS.Text
import PySem.Challenge.RW_placetrade_k05_whole_counts_of_rows
set_option Elab.async false
set_option linter.all false
set_option maxRecDepth 10000000
namespace Pt
open PySem PySem.Spec PyProof.Rows L2
def SqF (H : Hp) (a : Addr) (xs : List V) : Prop := ∃ o, H a = some (.frz o (.tup xs)) ∧ o.dict = none
theorem SqF.sq {K : PySem.W.Frag} {H : Hp} {a : Addr} {xs : List V} (h : SqF H a xs) : SqT K H a xs := let ⟨o, e, _⟩ := h; .inl (.inr ⟨o, e⟩)
def FzF (H : Hp) (a : Addr) (xs : List V) : Prop := ∃ o, H a = some (.frz o (.lst xs))
theorem FzF.sq {K : PySem.W.Frag} {H : Hp} {a : Addr} {xs : List V} (h : FzF H a xs) : SqL K H a xs := .inl (.inr h)
mutual
inductive Td (K : PySem.W.Frag) (H : Hp) : V → PyData → Prop
  | non : Td K H .non .none
  | bl (b : Bool) : Td K H (.bl b) (.bool b)
  | int (i : Int) : Td K H (.int i) (.int i)
  | str (x : Str) : Td K H (.str x) (.str x)
  | tup {a : Addr} {xs : List V} {ds : List PyData} : SqF H a xs → TdAll K H xs ds → Td K H (.ref a) (.tuple ds)
  | lst {a : Addr} {xs : List V} {ds : List PyData} : FzF H a xs → TdAll K H xs ds → Td K H (.ref a) (.list ds)
inductive TdAll (K : PySem.W.Frag) (H : Hp) : List V → List PyData → Prop
  | nil : TdAll K H [] []
  | cons {v : V} {vs : List V} {d : PyData} {ds : List PyData} : Td K H v d → TdAll K H vs ds → TdAll K H (v :: vs) (d :: ds)
end
variable {K : PySem.W.Frag} {C : Addr} {H H' H1 H2 : Hp} {v w x y : V} {vs : List V} {d e : PyData} {ds es : List PyData}
def Tx (H H' : Hp) : Prop := ∀ a o u, H a = some (.frz o u) → H' a = some (.frz o u)
theorem Tx.of (e : Same H H') : Tx H H' := fun a o u h => e _ _ h
theorem Tx.trans (a : Tx H H1) (b : Tx H1 H2) : Tx H H2 := fun p o u h => b p o u (a p o u h)
theorem Tx.fzF (t : Tx H H') {a : Addr} {xs : List V} (h : FzF H a xs) : FzF H' a xs := let ⟨o, e⟩ := h; ⟨o, t _ _ _ e⟩
theorem Tx.sqF (t : Tx H H') {a : Addr} {xs : List V} (h : SqF H a xs) : SqF H' a xs := let ⟨o, e, n⟩ := h; ⟨o, t _ _ _ e, n⟩
mutual
theorem Td.mono (t : Tx H H') : ∀ (d : PyData) (v : V), Td K H v d → Td K H' v d
  | .none, _, h => by cases h; exact .non
  | .bool b, _, h => by cases h; exact .bl b
  | .int i, _, h => by cases h; exact .int i
  | .str x, _, h => by cases h; exact .str x
  | .list ds, _, h => by
    cases h with
    | lst s a => exact .lst (t.fzF s) (TdAll.mono t ds _ a)
  | .tuple ds, _, h => by
    cases h with
    | tup s a => exact .tup (t.sqF s) (TdAll.mono t ds _ a)
  | .dict _, _, h => by cases h
theorem TdAll.mono (t : Tx H H') : ∀ (ds : List PyData) (vs : List V), TdAll K H vs ds → TdAll K H' vs ds
  | [], _, h => by cases h; exact .nil
  | d :: ds, _, h => by
    cases h with
    | cons a b => exact .cons (Td.mono t d _ a) (TdAll.mono t ds _ b)
end
mutual
theorem Td.dp : ∀ (d : PyData) (v : V), Td K H v d → Dp K H v d
  | .none, _, h => by cases h; exact .non
  | .bool b, _, h => by cases h; exact .bl b
  | .int i, _, h => by cases h; exact .int i
  | .str x, _, h => by cases h; exact .str x
  | .list ds, _, h => by
    cases h with
    | lst s a => exact .lst s.sq (TdAll.dp ds _ a)
  | .tuple ds, _, h => by
    cases h with
    | tup s a => exact .tup s.sq (TdAll.dp ds _ a)
  | .dict _, _, h => by cases h
theorem TdAll.dp : ∀ (ds : List PyData) (vs : List V), TdAll K H vs ds → DpAll K H vs ds
  | [], _, h => by cases h; exact .nil
  | d :: ds, _, h => by
    cases h with
    | cons a b => exact .cons (Td.dp d _ a) (TdAll.dp ds _ b)
end
theorem TdAll.length : ∀ {vs : List V} {ds : List PyData}, TdAll K H vs ds → vs.length = ds.length
  | _, _, .nil => rfl
  | _, _, .cons _ t => congrArg (· + 1) (TdAll.length t)
theorem TdAll.append : ∀ {vs ws : List V} {ds es : List PyData}, TdAll K H vs ds → TdAll K H ws es → TdAll K H (vs ++ ws) (ds ++ es)
  | _, _, _, _, .nil, s => s
  | _, _, _, _, .cons r t, s => .cons r (TdAll.append t s)
theorem TdAll.take : ∀ {vs : List V} {ds : List PyData} (n : Nat), TdAll K H vs ds → TdAll K H (vs.take n) (ds.take n)
  | _, _, 0, _ => .nil
  | _, _, _ + 1, .nil => .nil
  | _, _, n + 1, .cons r t => .cons r (TdAll.take n t)
theorem TdAll.drop : ∀ {vs : List V} {ds : List PyData} (n : Nat), TdAll K H vs ds → TdAll K H (vs.drop n) (ds.drop n)
  | _, _, 0, r => r
  | _, _, _ + 1, .nil => .nil
  | _, _, n + 1, .cons _ t => TdAll.drop n t
theorem TdAll.get : ∀ {vs : List V} {ds : List PyData} {i : Nat} {d : PyData}, TdAll K H vs ds → ds[i]? = some d → ∃ v, vs[i]? = some v ∧ Td K H v d
  | _, _, _, _, .nil, e => by simp at e
  | _, _, 0, _, .cons r _, e => by simp at e; subst e; exact ⟨_, rfl, r⟩
  | _, _, i + 1, _, .cons _ t, e => by
    obtain ⟨v, h1, h2⟩ := TdAll.get (i := i) t (by simpa using e)
    exact ⟨v, by simpa using h1, h2⟩
theorem TdAll.get' : ∀ {vs : List V} {ds : List PyData} {i : Nat} {v : V}, TdAll K H vs ds → vs[i]? = some v → ∃ d, ds[i]? = some d ∧ Td K H v d
  | _, _, _, _, .nil, e => by simp at e
  | _, _, 0, _, .cons r _, e => by simp at e; subst e; exact ⟨_, rfl, r⟩
  | _, _, i + 1, _, .cons _ t, e => by
    obtain ⟨v, h1, h2⟩ := TdAll.get' (i := i) t (by simpa using e)
    exact ⟨v, by simpa using h1, h2⟩
theorem TdAll.set : ∀ {vs : List V} {ds : List PyData} (i : Nat) {v : V} {d : PyData}, TdAll K H vs ds → Td K H v d → TdAll K H (vs.set i v) (ds.set i d)
  | _, _, _, _, _, .nil, _ => .nil
  | _, _, 0, _, _, .cons _ t, h => .cons h t
  | _, _, i + 1, _, _, .cons r t, h => .cons r (TdAll.set i t h)
theorem Td.int_of {i : Int} (h : Td K H v (.int i)) : v = .int i := by cases h; rfl
theorem Td.bl_of {b : Bool} (h : Td K H v (.bool b)) : v = .bl b := by cases h; rfl
theorem Td.lst_of (h : Td K H v (.list ds)) : ∃ a xs, v = .ref a ∧ FzF H a xs ∧ TdAll K H xs ds := by
  cases h with
  | lst s a => exact ⟨_, _, rfl, s, a⟩
theorem Td.tup_of (h : Td K H v (.tuple ds)) : ∃ a xs, v = .ref a ∧ SqF H a xs ∧ TdAll K H xs ds := by
  cases h with
  | tup s a => exact ⟨_, _, rfl, s, a⟩
def iL (l : List Int) : List PyData := l.map .int
abbrev row (l : List Int) : PyData := .tuple (iL l)
theorem TdAll.iL_of : ∀ {l : List Int} {vs : List V}, TdAll K H vs (iL l) → vs = l.map V.int
  | [], _, h => by cases h; rfl
  | i :: r, _, h => by
    cases h with
    | cons a b => rw [a.int_of, TdAll.iL_of b]; rfl
theorem TdAll.of_iL : ∀ (l : List Int), TdAll K H (l.map V.int) (iL l)
  | [] => .nil
  | i :: r => .cons (.int i) (TdAll.of_iL r)
theorem iL_len (l : List Int) : (iL l).length = l.length := List.length_map _
theorem iL_get (l : List Int) (i : Nat) : (iL l)[i]? = l[i]?.map .int := List.getElem?_map
theorem iL_app (l m : List Int) : iL (l ++ m) = iL l ++ iL m := List.map_append
def pairD (p : Int × Int) : PyData := .tuple [.int p.1, .int p.2]
def pairsD (ps : List (Int × Int)) : PyData := .tuple (ps.map pairD)
inductive Ct where
  | u
  | d (d : PyData)
  | r (v : V)
  | l (p : Addr) (ds : List PyData)
  | s (p : Addr) (ds : List PyData)
  | z (p : Addr) (ds : List PyData)
  | h (p c : Addr)
  | t (n : Int) (ps : List (Int × Int))
  | o (p : Addr) (u : HO) (ks : List (Addr × List V))
  | k (p : Addr) (u : HO) (ks : List (Addr × List V))
  | y (p : Addr) (ts : List (Int × List (Int × Int)))
  | n (L p q : Addr) (n : Int) (ps : List (Int × Int)) (ds : List PyData)
def lflds (t : V) (q : Addr) : List (Str × V) := [("_trade", t), ("_rows", .ref q)]
def flds (n : Int) (q : Addr) : List (Str × V) := [("_letters", .int n), ("_pairs", .ref q)]
def Fz (K : PySem.W.Frag) (H : Hp) (a : Addr) (xs : List V) : Prop :=
  (∃ o, H a = some (.frz o (.lst xs))) ∨
    ∃ (o : Obj) (its : Array Value) (n : Nat), K.lookup a = some o ∧ o.cls = .type "list" ∧ o.dict = none ∧ o.data = .seq its n ∧ its.size ≤ sizeLine ∧ Vals xs its.toList
theorem Fz.sq {a : Addr} {xs : List V} (h : Fz K H a xs) : SqL K H a xs := by
  rcases h with ⟨o, h⟩ | h
  · exact .inl (.inr ⟨o, h⟩)
  · exact .inr h
def Wr : HO → Prop
  | .lst _ => True
  | .ext _ => True
  | .dK _ => True
  | _ => False
def TrAll (K : PySem.W.Frag) (C : Addr) (H : Hp) : List V → List (Int × List (Int × Int)) → Prop
  | [], [] => True
  | v :: vs, t :: ts => (∃ p dx q, v = .ref p ∧ H p = some (.ins C dx (flds t.1 q)) ∧ Td K H (.ref q) (pairsD t.2)) ∧ TrAll K C H vs ts
  | _, _ => False
theorem TrAll.mono {C : Addr} (e : Tx H H') (f : ∀ a o, H a = some o → ¬ Wr o → H' a = some o) : ∀ {vs : List V} {ts : List (Int × List (Int × Int))}, TrAll K C H vs ts → TrAll K C H' vs ts
  | [], [], _ => True.intro
  | _ :: _, _ :: _, ⟨⟨p, dx, q, a, b, c⟩, r⟩ => ⟨⟨p, dx, q, a, f _ _ b (fun z => z), Td.mono e _ _ c⟩, TrAll.mono e f r⟩
  | [], _ :: _, h => h.elim
  | _ :: _, [], h => h.elim
theorem TrAll.length {C : Addr} : ∀ {vs : List V} {ts : List (Int × List (Int × Int))}, TrAll K C H vs ts → vs.length = ts.length
  | [], [], _ => rfl
  | _ :: _, _ :: _, ⟨_, r⟩ => congrArg (· + 1) (TrAll.length r)
  | [], _ :: _, h => h.elim
  | _ :: _, [], h => h.elim
theorem TrAll.get {C : Addr} : ∀ {vs : List V} {ts : List (Int × List (Int × Int))} {k : Nat} {v : V}, TrAll K C H vs ts → vs[k]? = some v → ∃ t, ts[k]? = some t ∧ ∃ p dx q, v = .ref p ∧ H p = some (.ins C dx (flds t.1 q)) ∧ Td K H (.ref q) (pairsD t.2)
  | _ :: _, t :: _, 0, _, ⟨a, _⟩, e => ⟨t, rfl, by cases e; exact a⟩
  | _ :: _, _ :: _, k + 1, _, ⟨_, r⟩, e => TrAll.get (k := k) r e
  | [], _, _, _, _, e => by simp at e
  | _ :: _, [], _, _, h, _ => h.elim
def CtAt (K : PySem.W.Frag) (C : Addr) (H : Hp) (v : V) : Ct → Prop
  | .u => True
  | .d d => Td K H v d
  | .r w => v = w
  | .l p ds => v = .ref p ∧ ∃ xs, H p = some (.lst xs) ∧ TdAll K H xs ds
  | .s p ds => v = .ref p ∧ ∃ xs, H p = some (.lst xs) ∧ TdAll K H xs ds
  | .z p ds => v = .ref p ∧ ∃ xs, Fz K H p xs ∧ TdAll K H xs ds
  | .h p c => v = .ref p ∧ p ≠ c ∧ ∃ (s k : Int) (cells : List Int), H p = some (.lst [.int s, .ref c, .int k]) ∧ H c = some (.lst (cells.map V.int)) ∧ cells.length ≤ 63
  | .t n ps => ∃ p dx q, v = .ref p ∧ H p = some (.ins C dx (flds n q)) ∧ Td K H (.ref q) (pairsD ps)
  | .o p u ks => v = .ref p ∧ H p = some u ∧ Wr u ∧ ∀ e ∈ ks, SqF H e.1 e.2
  | .k p u ks => v = .ref p ∧ (∃ o, H p = some (.frz o u)) ∧ ∀ e ∈ ks, SqF H e.1 e.2
  | .y p ts => v = .ref p ∧ ∃ xs, H p = some (.lst xs) ∧ TrAll K C H xs ts
  | .n L p q n ps ds => v = .ref p ∧ (∃ dx t, H p = some (.ins L dx (lflds (.ref t) q)) ∧ ∃ dy r, H t = some (.ins C dy (flds n r)) ∧ Td K H (.ref r) (pairsD ps)) ∧ ∃ xs, H q = some (.lst xs) ∧ TdAll K H xs ds
def Ct.adr : Ct → List Addr
  | .l p _ => [p]
  | .s p _ => [p]
  | .h p c => [p, c]
  | .o p _ _ => [p]
  | .y p _ => [p]
  | .n _ _ q _ _ _ => [q]
  | _ => []
def Ct.own : Ct → Bool
  | .l _ _ => true
  | .h _ _ => true
  | .o _ _ _ => true
  | .y _ _ => true
  | .n _ _ _ _ _ _ => true
  | _ => false
def Fr (T : List Addr) (H H' : Hp) : Prop := ∀ a o, H a = some o → a ∉ T → H' a = some o
def LT (T : List Addr) (H : Hp) : Prop := ∀ a ∈ T, ∃ u, H a = some u ∧ Wr u
theorem Fr.of (e : Same H H') (T : List Addr) : Fr T H H' := fun a o h _ => e a o h
theorem Fr.same (f : Fr [] H H') : Same H H' := fun a o h => f a o h (by simp)
theorem Fr.trans {T : List Addr} (f : Fr T H H1) (g : Fr T H1 H2) : Fr T H H2 := fun a o h n => g a o (f a o h n) n
theorem Fr.upd {p : Addr} {o : HO} : Fr [p] H (upd H p o) := fun a u h n => by rw [upd_ne (by simpa using n)]; exact h
theorem LT.nil : LT [] H := fun a h => by simp at h
theorem LT.one {p : Addr} {xs : List V} (h : H p = some (.lst xs)) : LT [p] H := fun a m => ⟨.lst xs, by rw [show a = p by simpa using m]; exact h, True.intro⟩
theorem LT.oneW {p : Addr} {u : HO} (h : H p = some u) (w : Wr u) : LT [p] H := fun a m => ⟨u, by rw [show a = p by simpa using m]; exact h, w⟩
theorem LT.ne {T : List Addr} (l : LT T H) {a : Addr} {o : HO} (h : H a = some o) (n : ¬ Wr o) : a ∉ T := fun m => by
  obtain ⟨u, e, z⟩ := l a m
  rw [h] at e
  cases e
  exact n z
theorem Tx.fr {T : List Addr} (l : LT T H) (f : Fr T H H') : Tx H H' := fun a o u r => f _ _ r (l.ne r fun z => z)
theorem CtAt.fr {T : List Addr} (l : LT T H) (f : Fr T H H') : ∀ {c : Ct}, (∀ a ∈ c.adr, a ∉ T) → CtAt K C H v c → CtAt K C H' v c
  | .u, _, _ => True.intro
  | .d d, _, h => Td.mono (.fr l f) d v h
  | .r _, _, h => h
  | .l q ds, n, ⟨a, ys, b, c⟩ => ⟨a, ys, f _ _ b (n q (by simp [Ct.adr])), TdAll.mono (.fr l f) ds ys c⟩
  | .s q ds, n, ⟨a, ys, b, c⟩ => ⟨a, ys, f _ _ b (n q (by simp [Ct.adr])), TdAll.mono (.fr l f) ds ys c⟩
  | .z q ds, n, ⟨a, ys, b, c⟩ => ⟨a, ys, by
      rcases b with ⟨o, b⟩ | b
      · exact .inl ⟨o, f _ _ b (l.ne b fun z => z)⟩
      · exact .inr b, TdAll.mono (.fr l f) ds ys c⟩
  | .h q c, n, ⟨a, ne, s, k, cs, h1, h2, h3⟩ => ⟨a, ne, s, k, cs, f _ _ h1 (n q (by simp [Ct.adr])), f _ _ h2 (n c (by simp [Ct.adr])), h3⟩
  | .t m ps, _, ⟨q, dx, r, a, b, c⟩ => ⟨q, dx, r, a, f _ _ b (l.ne b fun z => z), Td.mono (.fr l f) _ _ c⟩
  | .o q u ks, n, ⟨a, b, z, k⟩ => ⟨a, f _ _ b (n q (by simp [Ct.adr])), z, fun e m => (Tx.fr l f).sqF (k e m)⟩
  | .k q u ks, _, ⟨a, ⟨o, b⟩, k⟩ => ⟨a, ⟨o, Tx.fr l f _ _ _ b⟩, fun e m => (Tx.fr l f).sqF (k e m)⟩
  | .y q ts, n, ⟨a, ys, b, c⟩ => ⟨a, ys, f _ _ b (n q (by simp [Ct.adr])), c.mono (.fr l f) fun a o r z => f _ _ r (l.ne r z)⟩
  | .n L p q m ps ds, n, ⟨a, ⟨dx, t, b1, dy, r, b2, b3⟩, ys, b, c⟩ => ⟨a, ⟨dx, t, f _ _ b1 (l.ne b1 fun z => z), dy, r, f _ _ b2 (l.ne b2 fun z => z), Td.mono (.fr l f) _ _ b3⟩, ys, f _ _ b (n q (by simp [Ct.adr])), TdAll.mono (.fr l f) ds ys c⟩
theorem CtAt.mono (e : Same H H') {c : Ct} (h : CtAt K C H v c) : CtAt K C H' v c := h.fr LT.nil (Fr.of e []) fun a _ m => by simp at m
theorem CtAt.there : ∀ {c : Ct} {a : Addr}, CtAt K C H v c → a ∈ c.adr → ∃ u, H a = some u ∧ Wr u
  | .l p ds, a, ⟨_, xs, b, _⟩, h => by
    have e : a = p := by simpa [Ct.adr] using h
    exact ⟨.lst xs, e ▸ b, True.intro⟩
  | .s p ds, a, ⟨_, xs, b, _⟩, h => by
    have e : a = p := by simpa [Ct.adr] using h
    exact ⟨.lst xs, e ▸ b, True.intro⟩
  | .h p c, a, ⟨_, _, s, k, cs, h1, h2, _⟩, h => by
    have e : a = p ∨ a = c := by simpa [Ct.adr] using h
    rcases e with e | e
    · exact ⟨.lst _, e ▸ h1, True.intro⟩
    · exact ⟨.lst _, e ▸ h2, True.intro⟩
  | .o p u ks, a, ⟨_, b, z, _⟩, h => by
    have e : a = p := by simpa [Ct.adr] using h
    exact ⟨_, e ▸ b, z⟩
  | .u, a, _, h => by simp [Ct.adr] at h
  | .d _, a, _, h => by simp [Ct.adr] at h
  | .r _, a, _, h => by simp [Ct.adr] at h
  | .z _ _, a, _, h => by simp [Ct.adr] at h
  | .t _ _, a, _, h => by simp [Ct.adr] at h
  | .k _ _ _, a, _, h => by simp [Ct.adr] at h
  | .y p ts, a, ⟨_, xs, b, _⟩, h => by
    have e : a = p := by simpa [Ct.adr] using h
    exact ⟨.lst xs, e ▸ b, True.intro⟩
  | .n L p q n ps ds, a, ⟨_, _, xs, b, _⟩, h => by
    have e : a = q := by simpa [Ct.adr] using h
    exact ⟨.lst xs, e ▸ b, True.intro⟩
def SlotAt (K : PySem.W.Frag) (C : Addr) (H : Hp) (o : Option (Option V)) : Ct → Prop
  | .u => True
  | c => ∃ v, o = some (some v) ∧ CtAt K C H v c
theorem SlotAt.mk {o : Option (Option V)} {c : Ct} (e : o = some (some v)) (h : CtAt K C H v c) : SlotAt K C H o c := by
  cases c with
  | u => exact True.intro
  | _ => exact ⟨v, e, h⟩
theorem SlotAt.to {o : Option (Option V)} {c : Ct} (h : SlotAt K C H o c) (hc : c ≠ .u) : ∃ v, o = some (some v) ∧ CtAt K C H v c := by
  cases c with
  | u => exact absurd rfl hc
  | _ => exact h
theorem SlotAt.map {H' : Hp} {o : Option (Option V)} {c : Ct} (f : ∀ v, CtAt K C H v c → CtAt K C H' v c) (h : SlotAt K C H o c) : SlotAt K C H' o c := by
  cases c with
  | u => exact True.intro
  | _ => obtain ⟨v, e, a⟩ := h; exact ⟨v, e, f v a⟩
structure Wd (K : PySem.W.Frag) (C : Addr) (S : List Addr) (G : List (V × PyData)) (H0 H : Hp) (σ : L2.St) (Γ : List Ct) : Prop where
  fr : Fr S H0 H
  sl : LT S H
  len : σ.length = Γ.length
  at_ : ∀ (i : Nat) (c : Ct), Γ[i]? = some c → SlotAt K C H σ[i]? c
  wr : ∀ (i : Nat) (c : Ct), Γ[i]? = some c → c.own = true → ∀ a ∈ c.adr, a ∈ S ∨ H0 a = none
  dj : ∀ (i j : Nat) (c c' : Ct) (a : Addr), Γ[i]? = some c → Γ[j]? = some c' → a ∈ c.adr → a ∈ c'.adr → i = j ∨ (c.own = false ∧ c'.own = false)
  gh : ∀ p ∈ G, Td K H p.1 p.2
section
variable {G : List (V × PyData)} {S : List Addr} {H0 : Hp} {σ : L2.St} {Γ : List Ct} {i : Nat} {c : Ct}
theorem Wd.get (w : Wd K C S G H0 H σ Γ) (h : Γ[i]? = some c) (hc : c ≠ .u := by intro z; cases z) : ∃ v, σ[i]? = some (some v) ∧ CtAt K C H v c := (w.at_ i c h).to hc
theorem Wd.mono (w : Wd K C S G H0 H σ Γ) (e : Same H H') : Wd K C S G H0 H' σ Γ :=
  ⟨fun a o h n => e a o (w.fr a o h n), fun a m => let ⟨u, h, z⟩ := w.sl a m; ⟨u, e _ _ h, z⟩, w.len, fun i c h => (w.at_ i c h).map fun _ => CtAt.mono e, w.wr, w.dj, fun p m => Td.mono (.of e) _ _ (w.gh p m)⟩
theorem Wd.fr0 (w : Wd K C [] G H0 H σ Γ) : Same H0 H := w.fr.same
theorem set_cases {α : Type} {l : List α} {i j : Nat} {x y : α} (h : (l.set i x)[j]? = some y) : (j = i ∧ y = x ∧ i < l.length) ∨ (j ≠ i ∧ l[j]? = some y) := by
  rw [List.getElem?_set] at h
  split at h
  · split at h
    · rename_i e hl
      cases h
      exact .inl ⟨e.symm, rfl, hl⟩
    · cases h
  · rename_i e
    exact .inr ⟨fun z => e z.symm, h⟩
theorem Wd.setC (w : Wd K C S G H0 H σ Γ) (i : Nat) (h : CtAt K C H v c) (hw : c.own = true → ∀ a ∈ c.adr, a ∈ S ∨ H0 a = none) (hd : ∀ j c' a, j ≠ i → Γ[j]? = some c' → a ∈ c.adr → a ∈ c'.adr → False) : Wd K C S G H0 H (σ.set i (some v)) (Γ.set i c) := by
  refine ⟨w.fr, w.sl, by rw [List.length_set, List.length_set, w.len], fun j c' hj => ?_, fun j c' hj n => ?_, fun j k c1 c2 a h1 h2 m1 m2 => ?_, w.gh⟩
  · rcases set_cases hj with ⟨rfl, rfl, hl⟩ | ⟨ne, hj⟩
    · refine .mk ?_ h
      rw [List.getElem?_set_self (by rw [w.len]; exact hl)]
    · rw [List.getElem?_set_ne (Ne.symm ne)]
      exact w.at_ j c' hj
  · rcases set_cases hj with ⟨rfl, rfl, hl⟩ | ⟨ne, hj⟩
    · exact hw n
    · exact w.wr j c' hj n
  · rcases set_cases h1 with ⟨q1, q2, hl⟩ | ⟨ne, q1⟩
    · rcases set_cases h2 with ⟨q3, q4, _⟩ | ⟨ne2, q3⟩
      · exact .inl (by rw [q1, q3])
      · exact (hd k c2 a ne2 q3 (q2 ▸ m1) m2).elim
    · rcases set_cases h2 with ⟨q3, q4, _⟩ | ⟨ne2, q3⟩
      · exact (hd j c1 a ne q1 (q4 ▸ m2) m1).elim
      · exact w.dj j k c1 c2 a q1 q3 m1 m2
theorem Wd.set (w : Wd K C S G H0 H σ Γ) (i : Nat) (h : CtAt K C H v c) (ha : c.adr = [] := by rfl) : Wd K C S G H0 H (σ.set i (some v)) (Γ.set i c) :=
  w.setC i h (fun _ a m => by rw [ha] at m; simp at m) fun j c' a _ _ m _ => by rw [ha] at m; simp at m
theorem Wd.drop (w : Wd K C S G H0 H σ Γ) (i : Nat) : Wd K C S G H0 H σ (Γ.set i .u) := by
  refine ⟨w.fr, w.sl, by rw [List.length_set, w.len], fun j c' hj => ?_, fun j c' hj n => ?_, fun j k c1 c2 a h1 h2 m1 m2 => ?_, w.gh⟩
  · rcases set_cases hj with ⟨rfl, rfl, hl⟩ | ⟨ne, hj⟩
    · exact True.intro
    · exact w.at_ j c' hj
  · rcases set_cases hj with ⟨rfl, rfl, hl⟩ | ⟨ne, hj⟩
    · intro a m; simp [Ct.adr] at m
    · exact w.wr j c' hj n
  · rcases set_cases h1 with ⟨q1, q2, hl⟩ | ⟨ne, q1⟩
    · rw [q2] at m1; simp [Ct.adr] at m1
    · rcases set_cases h2 with ⟨q3, q4, _⟩ | ⟨ne2, q3⟩
      · rw [q4] at m2; simp [Ct.adr] at m2
      · exact w.dj j k c1 c2 a q1 q3 m1 m2
theorem Wd.fresh (w : Wd K C S G H0 H σ Γ) {p : Addr} (hp : H p = none) (h : Γ[i]? = some c) : p ∉ c.adr := fun m => by
  have hc : c ≠ .u := fun z => by subst z; simp [Ct.adr] at m
  obtain ⟨v, _, hv⟩ := w.get h hc
  obtain ⟨xs, e, _⟩ := hv.there m
  rw [hp] at e; cases e
theorem Wd.fresh0 (w : Wd K C S G H0 H σ Γ) {p : Addr} (hp : H p = none) : H0 p = none := by
  cases q : H0 p with
  | none => rfl
  | some o =>
    by_cases m : p ∈ S
    · obtain ⟨xs, e, _⟩ := w.sl p m
      rw [hp] at e; cases e
    · rw [w.fr p o q m] at hp; cases hp
theorem Wd.setN (w : Wd K C S G H0 H σ Γ) (i : Nat) {p : Addr} (e : Same H H') (hp : H p = none) (hx : CtAt K C H' (.ref p) (.l p ds)) :
    Wd K C S G H0 H' (σ.set i (some (.ref p))) (Γ.set i (.l p ds)) :=
  (w.mono e).setC i hx (fun _ a m => .inr (by rw [show a = p by simpa [Ct.adr] using m]; exact w.fresh0 hp)) fun j c' a _ hj m m' => by
    rw [show a = p by simpa [Ct.adr] using m] at m'
    exact w.fresh hp hj m'
theorem Wd.chgG {c0 c1 : Ct} (w : Wd K C S G H0 H σ Γ) {p : Addr} {u : HO} (hi : Γ[i]? = some c0) (h0 : c0.adr = [p]) (o0 : c0.own = true) (h1 : c1.adr = [p]) (o1 : c1.own = true) (hu : Wr u) (hv : ∀ v, CtAt K C H v c0 → CtAt K C (upd H p u) v c1) : Wd K C S G H0 (upd H p u) σ (Γ.set i c1) := by
  have nu : c0 ≠ .u := fun z => by rw [z] at o0; cases o0
  have nu1 : c1 ≠ .u := fun z => by rw [z] at o1; cases o1
  obtain ⟨v, e1, a1⟩ := w.get hi nu
  obtain ⟨ou, e2, wu⟩ := a1.there (a := p) (by rw [h0]; simp)
  have f : Fr [p] H (upd H p u) := Fr.upd
  have l := LT.oneW e2 wu
  have hw := w.wr i _ hi o0 p (by rw [h0]; simp)
  refine ⟨fun a o h n => ?_, fun a m => ?_, by rw [List.length_set, w.len], fun j c' hj => ?_, fun j c' hj n => ?_, fun j k c1' c2 a h1' h2 m1 m2 => ?_, fun q m => Td.mono (.fr l f) _ _ (w.gh q m)⟩
  · refine f a o (w.fr a o h n) fun m => ?_
    have e : a = p := by simpa using m
    subst e
    rcases hw with hw | hw
    · exact n hw
    · rw [hw] at h; cases h
  · by_cases e : a = p
    · subst e; exact ⟨u, upd_same, hu⟩
    · obtain ⟨zs, h, z⟩ := w.sl a m
      exact ⟨zs, by rw [upd_ne e]; exact h, z⟩
  · rcases set_cases hj with ⟨q1, q2, hl⟩ | ⟨ne, hj'⟩
    · rw [q2, q1]
      exact .mk e1 (hv v a1)
    · refine (w.at_ j c' hj').map fun u => CtAt.fr l f fun a m z => ne ?_
      have e : a = p := by simpa using z
      rw [e] at m
      exact (w.dj j i c' _ p hj' hi m (by rw [h0]; simp)).elim id fun z => by rw [o0] at z; cases z.2
  · rcases set_cases hj with ⟨rfl, rfl, hl⟩ | ⟨ne, hj⟩
    · intro a m
      rw [show a = p by rw [h1] at m; simpa using m]
      exact hw
    · exact w.wr j c' hj n
  · have old : ∀ {q : Nat} {c3 : Ct}, (Γ.set i c1)[q]? = some c3 → a ∈ c3.adr → ∃ c4, Γ[q]? = some c4 ∧ a ∈ c4.adr ∧ c4.own = c3.own := fun {q c3} h m => by
      rcases set_cases h with ⟨rfl, rfl, hl⟩ | ⟨ne, h⟩
      · exact ⟨_, hi, by rw [h0, ← h1]; exact m, by rw [o0, o1]⟩
      · exact ⟨_, h, m, rfl⟩
    obtain ⟨c3, h3, m3, o3⟩ := old h1' m1
    obtain ⟨c4, h4, m4, o4⟩ := old h2 m2
    rw [← o3, ← o4]
    exact w.dj j k c3 c4 a h3 h4 m3 m4
theorem Wd.chg (w : Wd K C S G H0 H σ Γ) {p : Addr} {xs : List V} (hi : Γ[i]? = some (.l p ds)) (ha : TdAll K H xs es) : Wd K C S G H0 (upd H p (.lst xs)) σ (Γ.set i (.l p es)) :=
  w.chgG hi rfl rfl rfl rfl True.intro fun v a => by
    obtain ⟨e1, ys, e2, _⟩ := a
    exact ⟨e1, xs, upd_same, TdAll.mono (.fr (LT.one e2) Fr.upd) _ _ ha⟩
theorem Wd.drawn (w : Wd K C S G H0 H σ Γ) {p q : Addr} (hi : Γ[i]? = some (.h p q)) (f : Fr [p, q] H H') (hs : CtAt K C H' (.ref p) (.h p q)) : Wd K C S G H0 H' σ Γ := by
  obtain ⟨v, e1, rfl, ne, s, k, cs, h1, h2, _⟩ := w.get hi
  have l : LT [p, q] H := fun a m => by
    have e : a = p ∨ a = q := by simpa using m
    rcases e with e | e
    · subst e; exact ⟨_, h1, True.intro⟩
    · subst e; exact ⟨_, h2, True.intro⟩
  have hw := w.wr i _ hi rfl
  refine ⟨fun a o h n => ?_, fun a m => ?_, w.len, fun j c' hj => ?_, w.wr, w.dj, fun q m => Td.mono (.fr l f) _ _ (w.gh q m)⟩
  · refine f a o (w.fr a o h n) fun m => ?_
    rcases hw a (by simpa [Ct.adr] using m) with z | z
    · exact n z
    · rw [z] at h; cases h
  · by_cases e : a ∈ [p, q]
    · obtain ⟨_, _, s', k', cs', g1, g2, _⟩ := hs
      have e : a = p ∨ a = q := by simpa using e
      rcases e with e | e
      · subst e; exact ⟨_, g1, True.intro⟩
      · subst e; exact ⟨_, g2, True.intro⟩
    · obtain ⟨zs, h, z⟩ := w.sl a m
      exact ⟨zs, f _ _ h e, z⟩
  · by_cases e : j = i
    · subst e
      rw [hi] at hj; cases hj
      exact ⟨_, e1, hs⟩
    · refine (w.at_ j c' hj).map fun u => CtAt.fr l f fun a m z => e ?_
      exact (w.dj j i c' _ a hj hi m (by simpa [Ct.adr] using z)).elim id fun z => by cases z.2
end
def EvC (K : PySem.W.Frag) (C : Addr) (te : TE) (σ : L2.St) (H : Hp) (c : Ct) : Prop := ∀ H1, Same H H1 → ∀ Q : VK, (∀ v H2, Same H1 H2 → CtAt K C H2 v c → Q v H2) → te σ H1 Q
def EvN (K : PySem.W.Frag) (C : Addr) (te : TE) (σ : L2.St) (H : Hp) (ds : List PyData) : Prop := ∀ H1, Same H H1 → ∀ Q : VK, (∀ p H2, H1 p = none → Same H1 H2 → CtAt K C H2 (.ref p) (.l p ds) → Q (.ref p) H2) → te σ H1 Q
def EvT (tt : TT) (σ : L2.St) (H : Hp) (b : Bool) : Prop := ∀ H1, Same H H1 → ∀ Q : Bool → Hp → Prop, (∀ H2, Same H1 H2 → Q b H2) → tt σ H1 Q
inductive Ag where
  | c (c : Ct)
  | n (ds : List PyData)
def AgAt (K : PySem.W.Frag) (C : Addr) (H : Hp) (v : V) : Ag → Prop
  | .c c => CtAt K C H v c
  | .n ds => ∃ p xs, v = .ref p ∧ H p = some (.lst xs) ∧ TdAll K H xs ds
theorem AgAt.mono (e : Same H H') : ∀ {a : Ag}, AgAt K C H v a → AgAt K C H' v a
  | .c _, h => CtAt.mono e h
  | .n ds, ⟨p, xs, a, b, c⟩ => ⟨p, xs, a, e _ _ b, TdAll.mono (.of e) ds xs c⟩
def Args (K : PySem.W.Frag) (C : Addr) (H : Hp) : List V → List Ag → Prop
  | [], [] => True
  | v :: vs, a :: as => AgAt K C H v a ∧ Args K C H vs as
  | _, _ => False
theorem Args.mono (e : Same H H') : ∀ {vs : List V} {as : List Ag}, Args K C H vs as → Args K C H' vs as
  | [], [], _ => True.intro
  | _ :: _, _ :: _, ⟨a, b⟩ => ⟨a.mono e, Args.mono e b⟩
  | [], _ :: _, h => h.elim
  | _ :: _, [], h => h.elim
theorem Args.length : ∀ {vs : List V} {as : List Ag}, Args K C H vs as → vs.length = as.length
  | [], [], _ => rfl
  | _ :: _, _ :: _, ⟨_, b⟩ => congrArg (· + 1) (Args.length b)
  | [], _ :: _, h => h.elim
  | _ :: _, [], h => h.elim
def EvA (K : PySem.W.Frag) (C : Addr) (ta : TA) (σ : L2.St) (H : Hp) (as : List Ag) : Prop := ∀ H1, Same H H1 → ∀ Q : List V → Hp → Prop, (∀ vs H2, Same H1 H2 → Args K C H2 vs as → Q vs H2) → ta σ H1 Q
def EvO (to : TO) (σ : L2.St) (H : Hp) (o : Option Int) : Prop := ∀ H1, Same H H1 → ∀ Q : Option Int → Hp → Prop, (∀ H2, Same H1 H2 → Q o H2) → to σ H1 Q
section
variable {G : List (V × PyData)} {S : List Addr} {H0 : Hp} {σ : L2.St} {Γ : List Ct} {i : Nat} {c : Ct} {te ta tb tc : TE} {t u : TT}
theorem same_new {p : Addr} {o : HO} (h : H p = none) : Same H (upd H p o) := fun b x e => by
  rw [upd_ne (ne_of_none e h)]
  exact e
theorem EvC.mono (e : Same H H') (h : EvC K C te σ H c) : EvC K C te σ H' c := fun H1 e1 => h H1 (e.trans e1)
theorem EvN.mono (e : Same H H') (h : EvN K C te σ H ds) : EvN K C te σ H' ds := fun H1 e1 => h H1 (e.trans e1)
theorem EvT.mono {b : Bool} (e : Same H H') (h : EvT t σ H b) : EvT t σ H' b := fun H1 e1 => h H1 (e.trans e1)
theorem ev_var (w : Wd K C S G H0 H σ Γ) (h : Γ[i]? = some c) (hc : c ≠ .u := by intro z; cases z) : EvC K C (tVar i) σ H c := fun H1 e1 Q q => by
  obtain ⟨v, e, a⟩ := w.get h hc
  exact ⟨v, e, q v H1 (Same.refl H1) (a.mono e1)⟩
theorem ev_int {k : Int} : EvC K C (tC (.int k)) σ H (.d (.int k)) := fun H1 _ Q q => q _ H1 (Same.refl H1) (.int k)
theorem ev_bl {k : Bool} : EvC K C (tC (.bl k)) σ H (.d (.bool k)) := fun H1 _ Q q => q _ H1 (Same.refl H1) (.bl k)
theorem ev_d {d e : PyData} (h : EvC K C te σ H (.d d)) (q : d = e) : EvC K C te σ H (.d e) := q ▸ h
theorem et_cast {b b' : Bool} (h : EvT t σ H b) (e : b = b') : EvT t σ H b' := e ▸ h
section
variable {X : Cx}
theorem laidF {pins : List (Addr × Obj)} {σ : L2.St} {H : Hp} {s : Shared} {xs : List V} {its : List Value} (I : Inv X pins σ H s) (r : Vals xs its) (z : xs.length ≤ sizeLine) :
    Inv X pins σ (upd H s.heap.objs.size (.frz { cls := .type "tuple", data := .seq its.toArray } (.tup xs))) { s with heap := s.heap.push { cls := .type "tuple", data := .seq its.toArray } } :=
  I.laid (t' := s.toks) (fun b u e => Heap.get?_push_of_some _ e) (Nat.le_refl _) ⟨Heap.get?_push_size _ rfl, z, its, r, ⟨_, Heap.get?_push_size _ rfl, rfl, _, rfl⟩⟩
def tTupF (t : TA) : TE := fun σ H Q => t σ H fun xs H1 => xs.length ≤ sizeLine ∧ ∀ p o, H1 p = none → o.dict = none → Q (.ref p) (upd H1 p (.frz o (.tup xs)))
theorem pe_tupF {es : List Expr} {t : TA} {x1 pos} (h : PA X es t) : PE X (.Tuple es x1 pos) (tTupF t) := by
  refine ⟨fun pins s σ H Q I hq => ?_⟩
  refine wpAny_Tuple_spliced (thn (h.run pos pins s σ H _ I hq) fun us s1 ⟨xs, H1, I1, r, z, q⟩ => ⟨by rw [← r.length]; exact z, ?_⟩)
  exact ⟨.ref s1.heap.objs.size, _, laidF I1 r z, rfl, q _ _ (I1.hok.fresh (Nat.le_refl _)) rfl⟩
def rTupleOf (K : PySem.W.Frag) : List V → Hp → VK → Prop := fun xs H Q => ∃ p ys, xs = [.ref p] ∧ ((SqL K H p ys ∧ ∀ l o, H l = none → o.dict = none → Q (.ref l) (upd H l (.frz o (.tup ys)))) ∨ (SqT K H p ys ∧ Q (.ref p) H))
theorem call_tuple_of' : CallR X (.type "tuple") (rTupleOf X.K) := fun pins s σ H xs us Q I r ⟨p, ys, ex, h⟩ => by
  subst ex
  obtain ⟨u, rfl, ru⟩ := vals1 r
  obtain rfl : u = .ref p := ru
  refine h.elim (fun ⟨lst, q⟩ => ?_) fun ⟨tup, q⟩ => ?_
  · obtain ⟨its, rv, here, few⟩ := I.list lst
    exact call_tuple_list here.isList (fun h1 k => have J := I.kept (t' := s.toks) k; ⟨.ref _, _, laidF J rv few, rfl, q _ _ (J.hok.fresh (Nat.le_refl _)) rfl⟩) (by have := rv.length; rw [List.size_toArray]; omega)
  · obtain ⟨its, _, here, _⟩ := I.tuple tup
    exact call_tuple_same here ⟨.ref p, H, I, rfl, q⟩
def rCatF (K : PySem.W.Frag) : R2 := fun x y H Q => ∃ a b xs ys, x = .ref a ∧ y = .ref b ∧ SqT K H a xs ∧ SqT K H b ys ∧ xs.length + ys.length ≤ sizeLine ∧
  (xs = [] → Q (.ref b) H) ∧ (xs ≠ [] → ys = [] → Q (.ref a) H) ∧ (xs ≠ [] → ys ≠ [] → ∀ p o, H p = none → o.dict = none → Q (.ref p) (upd H p (.frz o (.tup (xs ++ ys)))))
theorem op_catF : OpR X (binaryOp .Add) (rCatF X.K) := by
  intro pins s σ H x y v u Q I rx ry h
  obtain ⟨a, b, xs, ys, rfl, rfl, ha, hb, hz, q0, q1, q2⟩ := h
  cases rx
  cases ry
  obtain ⟨its, r1, p1, _⟩ := I.tuple ha
  obtain ⟨its2, r2, p2, _⟩ := I.tuple hb
  by_cases hx : xs = []
  · subst hx
    cases r1
    exact cat_tup0 p1 p2 ⟨.ref b, H, I, rfl, q0 rfl⟩
  · refine HT.cat_tup p1 p2 (fun z => hx (r1.nil_iff.mp z)) (fun z => ⟨.ref a, H, I, rfl, q1 hx (r2.nil_iff.mp z)⟩) (fun z => ?_) (by rw [← r1.length, ← r2.length]; exact hz)
    exact ⟨.ref s.heap.objs.size, _, laidF I (r1.append r2) (by rw [List.length_append]; exact hz), rfl, q2 hx (fun w => z (r2.nil_iff.mpr w)) _ _ (I.hok.fresh (Nat.le_refl _)) rfl⟩
def rSlF (K : PySem.W.Frag) : V → Option Int → Option Int → Hp → VK → Prop := fun x lo hi H Q => ∃ a xs, x = .ref a ∧ SqT K H a xs ∧
  (HT.sIx xs.length 0 lo = 0 ∧ HT.sIx xs.length xs.length hi = xs.length → Q (.ref a) H) ∧ (¬ (HT.sIx xs.length 0 lo = 0 ∧ HT.sIx xs.length xs.length hi = xs.length) → ∀ p o, H p = none → o.dict = none → Q (.ref p) (upd H p (.frz o (.tup (cutV xs lo hi)))))
theorem sl_tupF : SlR X (rSlF X.K) := by
  intro pins s σ H x v vl vu lo hi sl Q I rx hs pl pu h
  obtain ⟨a, xs, rfl, hx, q1, q2⟩ := h
  cases rx
  obtain ⟨its, r, ht, hz⟩ := I.tuple hx
  have hlen : its.toArray.size = xs.length := by rw [List.size_toArray]; exact r.length.symm
  refine ⟨"tuple", _, PyProof.Rows.slot_tuple_getitem.lookup, ht.typeIs, ?_⟩
  by_cases hw : HT.sIx xs.length 0 lo = 0 ∧ HT.sIx xs.length xs.length hi = xs.length
  · exact getItem_tuple_whole ht hs pl pu (by rw [hlen]; exact hw) ⟨.ref a, H, I, rfl, q1 hw⟩
  · refine HT.getItem_tuple_cut ht hs pl pu (by rw [hlen]; exact hw) ?_ (by rw [hlen]; exact hz)
    rw [hlen]
    exact ⟨.ref s.heap.objs.size, _, laidF I ((r.drop _).take _) (Nat.le_trans (cutV_length xs lo hi) hz), rfl, q2 hw _ _ (I.hok.fresh (Nat.le_refl _)) rfl⟩
end
theorem new_t {p : Addr} {xs : List V} {o : Obj} (hp : H p = none) (ho : o.dict = none) (d : TdAll K H xs ds) : CtAt K C (upd H p (.frz o (.tup xs))) (.ref p) (.d (.tuple ds)) := .tup ⟨o, upd_same, ho⟩ (TdAll.mono (.of (same_new hp)) _ _ d)
theorem ev_op2 {r : R2} {c1 c2 c3 : Ct} (ha : EvC K C ta σ H c1) (hb : EvC K C tb σ H c2)
    (hr : ∀ H1, Same H H1 → ∀ x y, CtAt K C H1 x c1 → CtAt K C H1 y c2 → ∀ Q : VK, (∀ v H2, Same H1 H2 → CtAt K C H2 v c3 → Q v H2) → r x y H1 Q) : EvC K C (tOp r ta tb) σ H c3 := fun H1 e1 Q q =>
  ha H1 e1 _ fun x H2 e2 a2 => hb H2 (e1.trans e2) _ fun y H3 e3 a3 => hr H3 ((e1.trans e2).trans e3) x y (a2.mono e3) a3 Q fun v H4 e4 a4 => q v H4 ((e2.trans e3).trans e4) a4
theorem ev_i0 {g : Int → Int → V} {k j : Int} (ha : EvC K C ta σ H (.d (.int k))) (hb : EvC K C tb σ H (.d (.int j))) (hd : ∀ H, Td K H (g k j) d) : EvC K C (tOp (rI0 g) ta tb) σ H (.d d) :=
  ev_op2 ha hb fun H1 _ x y a1 a2 Q q => ⟨k, j, a1.int_of, a2.int_of, q _ H1 (Same.refl H1) (hd H1)⟩
theorem ev_iC {P : Int → Int → Prop} {g : Int → Int → V} {k j : Int} (ha : EvC K C ta σ H (.d (.int k))) (hb : EvC K C tb σ H (.d (.int j))) (hP : P k j) (hd : ∀ H, Td K H (g k j) d) : EvC K C (tOp (rI P g) ta tb) σ H (.d d) :=
  ev_op2 ha hb fun H1 _ x y a1 a2 Q q => ⟨k, j, a1.int_of, a2.int_of, hP, q _ H1 (Same.refl H1) (hd H1)⟩
def rAddU (K : PySem.W.Frag) : R2 := fun x y H Q => rI0 (fun i j => .int (i + j)) x y H Q ∨ (rCatF K x y H Q ∨ rCat x y H Q)
theorem op_addU {X : Cx} : OpR X (binaryOp .Add) (rAddU X.K) := op_add.or (op_catF.or op_cat)
theorem ev_addI {k j : Int} (ha : EvC K C ta σ H (.d (.int k))) (hb : EvC K C tb σ H (.d (.int j))) : EvC K C (tOp (rAddU K) ta tb) σ H (.d (.int (k + j))) :=
  ev_op2 ha hb fun H1 _ x y a1 a2 Q q => .inl ⟨k, j, a1.int_of, a2.int_of, q _ H1 (Same.refl H1) (.int _)⟩
theorem ev_addT (ha : EvC K C ta σ H (.d (.tuple ds))) (hb : EvC K C tb σ H (.d (.tuple es))) (hl : ds.length + es.length ≤ 10000000) : EvC K C (tOp (rAddU K) ta tb) σ H (.d (.tuple (ds ++ es))) :=
  ev_op2 ha hb fun H1 _ x y a1 a2 Q q => .inr (.inl (by
    obtain ⟨a, xs, rfl, s1, d1⟩ := Td.tup_of a1
    obtain ⟨b, ys, rfl, s2, d2⟩ := Td.tup_of a2
    have l1 := d1.length
    have l2 := d2.length
    refine ⟨a, b, xs, ys, rfl, rfl, s1.sq, s2.sq, Nat.le_trans (by omega) (show 10000000 ≤ sizeLine by decide), fun e => ?_, fun _ e => ?_, fun _ _ p o hp ho => ?_⟩
    · subst e
      cases d1
      exact q _ H1 (Same.refl H1) a2
    · subst e
      cases d2
      refine q _ H1 (Same.refl H1) ?_
      rw [List.append_nil]
      exact a1
    · exact q _ _ (same_new hp) (new_t hp ho (d1.append d2))))
theorem ev_eqD {x1 x2 : PyData} (ha : EvC K C ta σ H (.d x1)) (hb : EvC K C tb σ H (.d x2)) (h1 : SeqAt.shaped x1 = true) (h2 : SeqAt.shaped x2 = true) : EvC K C (tOp (rEqD K) ta tb) σ H (.d (.bool (PyData.eqv x1 x2))) :=
  ev_op2 ha hb fun H1 _ x y a1 a2 Q q => ⟨x1, x2, Td.dp _ _ a1, Td.dp _ _ a2, h1, h2, q _ H1 (Same.refl H1) (.bl _)⟩
theorem ev_neD {x1 x2 : PyData} (ha : EvC K C ta σ H (.d x1)) (hb : EvC K C tb σ H (.d x2)) (h1 : SeqAt.shaped x1 = true) (h2 : SeqAt.shaped x2 = true) : EvC K C (tOp (rNeD K) ta tb) σ H (.d (.bool (!PyData.eqv x1 x2))) :=
  ev_op2 ha hb fun H1 _ x y a1 a2 Q q => ⟨x1, x2, Td.dp _ _ a1, Td.dp _ _ a2, h1, h2, q _ H1 (Same.refl H1) (.bl _)⟩
theorem shaped_int (k : Int) : SeqAt.shaped (.int k) = true := by
  show ((PyData.int k).canLay0 && decide ((PyData.int k).depth ≤ 64)) = true
  simp [PyData.canLay0, PyData.depth]
theorem lay_iL : ∀ l : List Int, PyData.canLayAll0 (iL l) = true
  | [] => by simp [iL, PyData.canLayAll0]
  | k :: l => by
    have := lay_iL l
    simp only [iL] at this
    simp [iL, PyData.canLayAll0, PyData.canLay0, this]
theorem depth_iL : ∀ l : List Int, PyData.depthAll (iL l) ≤ 1
  | [] => by simp [iL, PyData.depthAll]
  | k :: l => by
    have := depth_iL l
    simp only [iL] at this
    simp only [iL, List.map_cons, PyData.depthAll, PyData.depth]
    omega
theorem shaped_row (l : List Int) : SeqAt.shaped (row l) = true := by
  show ((row l).canLay0 && decide ((row l).depth ≤ 64)) = true
  have h1 := depth_iL l
  rw [Bool.and_eq_true]
  refine ⟨?_, decide_eq_true ?_⟩
  · simp only [row, PyData.canLay0]; exact lay_iL l
  · simp only [row, PyData.depth]; omega
theorem eqv_iL : ∀ a b : List Int, PyData.eqvAll (iL a) (iL b) = decide (a = b)
  | [], [] => by simp [iL, PyData.eqvAll]
  | [], _ :: _ => by simp [iL, PyData.eqvAll]
  | _ :: _, [] => by simp [iL, PyData.eqvAll]
  | x :: a, y :: b => by
    have ih := eqv_iL a b
    simp only [iL] at ih
    simp only [iL, List.map_cons, PyData.eqvAll, PyData.eqv, ih]
    by_cases e : x = y
    · subst e; simp
    · simp [e]
theorem eqv_row (a b : List Int) : PyData.eqv (row a) (row b) = decide (a = b) := by
  show PyData.eqv (.tuple (iL a)) (.tuple (iL b)) = _
  simp only [PyData.eqv]
  exact eqv_iL a b
theorem eqv_int (a b : Int) : PyData.eqv (.int a) (.int b) = decide (a = b) := by
  simp only [PyData.eqv]
  by_cases e : a = b
  · subst e; simp
  · simp [e]
theorem ev_eqI {k j : Int} (ha : EvC K C ta σ H (.d (.int k))) (hb : EvC K C tb σ H (.d (.int j))) : EvC K C (tOp (rEqD K) ta tb) σ H (.d (.bool (decide (k = j)))) :=
  eqv_int k j ▸ ev_eqD ha hb (shaped_int _) (shaped_int _)
theorem ev_neI {k j : Int} (ha : EvC K C ta σ H (.d (.int k))) (hb : EvC K C tb σ H (.d (.int j))) : EvC K C (tOp (rNeD K) ta tb) σ H (.d (.bool (!decide (k = j)))) :=
  eqv_int k j ▸ ev_neD ha hb (shaped_int _) (shaped_int _)
theorem et_test {b : Bool} (h : EvC K C te σ H (.d (.bool b))) : EvT (tTest te) σ H b := fun H1 e1 Q q => h H1 e1 _ fun v H2 e2 a => ⟨b, a.bl_of, q H2 e2⟩
theorem et_and : ∀ {a b : Bool}, EvT t σ H a → (a = true → EvT u σ H b) → EvT (tAnd t u) σ H (a && b)
  | false, _, h, _ => fun H1 e _ q => h H1 e _ q
  | true, _, h, k => fun H1 e _ q => h H1 e _ fun H2 e2 => k rfl H2 (e.trans e2) _ fun H3 e3 => q H3 (e2.trans e3)
theorem et_or : ∀ {a b : Bool}, EvT t σ H a → (a = false → EvT u σ H b) → EvT (tOr t u) σ H (a || b)
  | true, _, h, _ => fun H1 e _ q => h H1 e _ q
  | false, _, h, k => fun H1 e _ q => h H1 e _ fun H2 e2 => k rfl H2 (e.trans e2) _ fun H3 e3 => q H3 (e2.trans e3)
theorem et_not {a : Bool} (h1 : EvT t σ H a) : EvT (tNot t) σ H (!a) := fun H1 e _ q => h1 H1 e _ fun H2 e2 => q H2 e2
theorem ev_orV {a b : Bool} (h1 : EvC K C ta σ H (.d (.bool a))) (h2 : a = false → EvC K C tb σ H (.d (.bool b))) : EvC K C (tOrV ta tb) σ H (.d (.bool (a || b))) := fun H1 e Q q => h1 H1 e _ fun v H2 e2 z => ⟨a, z.bl_of, by
  cases a with
  | true => exact q _ H2 e2 (.bl true)
  | false => exact h2 rfl H2 (e.trans e2) Q fun v H3 e3 => q v H3 (e2.trans e3)⟩
theorem ev_if {b : Bool} (h : EvT t σ H b) (h1 : b = true → EvC K C ta σ H c) (h2 : b = false → EvC K C tb σ H c) : EvC K C (tIf t ta tb) σ H c := fun H1 e Q q => h H1 e _ fun H2 e2 => by
  cases b with
  | true => exact h1 rfl H2 (e.trans e2) Q fun v H3 e3 => q v H3 (e2.trans e3)
  | false => exact h2 rfl H2 (e.trans e2) Q fun v H3 e3 => q v H3 (e2.trans e3)
theorem ev_chain {g g' : Int → Int → Bool} {k j l : Int} (ha : EvC K C ta σ H (.d (.int k))) (hb : EvC K C tb σ H (.d (.int j))) (hc : EvC K C tc σ H (.d (.int l))) :
    EvC K C (tChain (rI0 fun i j => .bl (g i j)) (rI0 fun i j => .bl (g' i j)) ta tb tc) σ H (.d (.bool (g k j && g' j l))) := fun H1 e1 Q q =>
  ha H1 e1 _ fun x H2 e2 a2 => hb H2 (e1.trans e2) _ fun y H3 e3 a3 => ⟨k, j, a2.int_of, a3.int_of, g k j, rfl, by
    cases h : g k j with
    | true =>
      refine hc H3 ((e1.trans e2).trans e3) _ fun z H4 e4 a4 => ⟨j, l, a3.int_of, a4.int_of, ?_⟩
      have z := q (.bl (g' j l)) H4 ((e2.trans e3).trans e4)
      rw [h, Bool.true_and] at z
      exact z (.bl _)
    | false =>
      have z := q (.bl false) H3 (e2.trans e3)
      rw [h, Bool.false_and] at z
      exact z (.bl _)⟩
theorem ea_nil : EvA K C tNil σ H [] := fun H1 _ Q q => q [] H1 (Same.refl H1) True.intro
theorem ea_cons {tr : TA} {as : List Ag} (h : EvC K C te σ H c) (hr : EvA K C tr σ H as) : EvA K C (tCons te tr) σ H (.c c :: as) := fun H1 e1 Q q =>
  h H1 e1 _ fun v H2 e2 a => hr H2 (e1.trans e2) _ fun vs H3 e3 b => q (v :: vs) H3 (e2.trans e3) ⟨CtAt.mono e3 a, b⟩
theorem ea_consN {tr : TA} {as : List Ag} (h : EvN K C te σ H ds) (hr : EvA K C tr σ H as) : EvA K C (tCons te tr) σ H (.n ds :: as) := fun H1 e1 Q q =>
  h H1 e1 _ fun p H2 _ e2 a => hr H2 (e1.trans e2) _ fun vs H3 e3 b => q (.ref p :: vs) H3 (e2.trans e3) ⟨by
    obtain ⟨_, xs, h1, h2⟩ := CtAt.mono e3 a
    exact ⟨p, xs, rfl, h1, h2⟩, b⟩
theorem ea_consL {tr : TA} {as : List Ag} {p : Addr} (h : EvC K C te σ H (.l p ds)) (hr : EvA K C tr σ H as) : EvA K C (tCons te tr) σ H (.n ds :: as) := fun H1 e1 Q q =>
  h H1 e1 _ fun v H2 e2 a => hr H2 (e1.trans e2) _ fun vs H3 e3 b => q (v :: vs) H3 (e2.trans e3) ⟨by
    obtain ⟨h0, xs, h1, h2⟩ := CtAt.mono e3 a
    exact ⟨p, xs, h0, h1, h2⟩, b⟩
theorem ea_consS {tr : TA} {as : List Ag} {p : Addr} (h : EvC K C te σ H (.s p ds)) (hr : EvA K C tr σ H as) : EvA K C (tCons te tr) σ H (.n ds :: as) := fun H1 e1 Q q =>
  h H1 e1 _ fun v H2 e2 a => hr H2 (e1.trans e2) _ fun vs H3 e3 b => q (v :: vs) H3 (e2.trans e3) ⟨by
    obtain ⟨h0, xs, h1, h2⟩ := CtAt.mono e3 a
    exact ⟨p, xs, h0, h1, h2⟩, b⟩
def EvD (K : PySem.W.Frag) (C : Addr) (ta : TA) (σ : L2.St) (H : Hp) (ds : List PyData) : Prop := ∀ H1, Same H H1 → ∀ Q : List V → Hp → Prop, (∀ vs H2, Same H1 H2 → TdAll K H2 vs ds → Q vs H2) → ta σ H1 Q
theorem ed_nil : EvD K C tNil σ H [] := fun H1 _ Q q => q [] H1 (Same.refl H1) .nil
theorem ed_cons {tr : TA} (h : EvC K C te σ H (.d d)) (hr : EvD K C tr σ H ds) : EvD K C (tCons te tr) σ H (d :: ds) := fun H1 e1 Q q =>
  h H1 e1 _ fun v H2 e2 a => hr H2 (e1.trans e2) _ fun vs H3 e3 b => q (v :: vs) H3 (e2.trans e3) (.cons (Td.mono (.of e3) _ _ a) b)
theorem ev_tup {ts : TA} (h : EvD K C ts σ H ds) (hl : ds.length ≤ 10000000 := by simp) : EvC K C (tTupF ts) σ H (.d (.tuple ds)) := fun H1 e1 Q q =>
  h H1 e1 _ fun vs H2 e2 a => ⟨by rw [a.length]; exact Nat.le_trans hl (by decide), fun p o hp ho => q _ _ (e2.trans (same_new hp)) (new_t hp ho a)⟩
theorem en_lst {ts : TA} (h : EvD K C ts σ H ds) (hl : ds.length ≤ 10000000 := by simp) : EvN K C (tLst ts) σ H ds := fun H1 e1 Q q =>
  h H1 e1 _ fun vs H2 e2 a => ⟨by rw [a.length]; exact Nat.le_trans hl (by decide), fun p hp => q p _ (by
    cases z : H1 p with
    | none => rfl
    | some o => rw [e2 p o z] at hp; cases hp) (e2.trans (same_new hp)) ⟨rfl, vs, upd_same, TdAll.mono (.of (same_new hp)) _ _ a⟩⟩
theorem ev_cb {r : List V → Hp → VK → Prop} {ts : TA} {as : List Ag} (h : EvA K C ts σ H as) (hr : ∀ H1, Same H H1 → ∀ vs, Args K C H1 vs as → ∀ Q : VK, (∀ v H2, Same H1 H2 → CtAt K C H2 v c → Q v H2) → r vs H1 Q) : EvC K C (tCB r ts) σ H c := fun H1 e1 Q q =>
  h H1 e1 _ fun vs H2 e2 a => hr H2 (e1.trans e2) vs a Q fun v H3 e3 => q v H3 (e2.trans e3)
theorem Args.one {vs : List V} {a : Ag} (h : Args K C H vs [a]) : ∃ v, vs = [v] ∧ AgAt K C H v a := by
  match vs, h with
  | [v], ⟨h, _⟩ => exact ⟨v, rfl, h⟩
theorem Args.two {vs : List V} {a b : Ag} (h : Args K C H vs [a, b]) : ∃ v w, vs = [v, w] ∧ AgAt K C H v a ∧ AgAt K C H w b := by
  match vs, h with
  | [v, w], ⟨h, g, _⟩ => exact ⟨v, w, rfl, h, g⟩
theorem Args.three {vs : List V} {a b c : Ag} (h : Args K C H vs [a, b, c]) : ∃ v w x, vs = [v, w, x] ∧ AgAt K C H v a ∧ AgAt K C H w b ∧ AgAt K C H x c := by
  match vs, h with
  | [v, w, x], ⟨h, g, f, _⟩ => exact ⟨v, w, x, rfl, h, g, f⟩
def rLen (K : PySem.W.Frag) : List V → Hp → VK → Prop := fun xs H Q => ∃ x n, xs = [x] ∧ LenV K x H n ∧ Q (.int n) H
theorem call_len1 {X : Cx} : CallR X (.builtin "len") (rLen X.K) := call_len
theorem ev_lenT (h : EvC K C te σ H (.d (.tuple ds))) : EvC K C (tCB (rLen K) (tCons te tNil)) σ H (.d (.int ds.length)) := ev_cb (ea_cons h ea_nil) fun H1 _ vs a Q q => by
  obtain ⟨v, rfl, a1⟩ := a.one
  obtain ⟨p, xs, rfl, s, d⟩ := Td.tup_of a1
  exact ⟨_, ds.length, rfl, .inr ⟨xs, s.sq, d.length.symm⟩, q _ H1 (Same.refl H1) (.int _)⟩
theorem ev_lenN (h : EvN K C te σ H ds) : EvC K C (tCB (rLen K) (tCons te tNil)) σ H (.d (.int ds.length)) := ev_cb (ea_consN h ea_nil) fun H1 _ vs a Q q => by
  obtain ⟨v, rfl, p, xs, rfl, s, d⟩ := a.one
  exact ⟨_, ds.length, rfl, .inl ⟨xs, SqL.of s, d.length.symm⟩, q _ H1 (Same.refl H1) (.int _)⟩
theorem ev_lenL {p : Addr} (h : EvC K C te σ H (.l p ds)) : EvC K C (tCB (rLen K) (tCons te tNil)) σ H (.d (.int ds.length)) := ev_cb (ea_consL h ea_nil) fun H1 _ vs a Q q => by
  obtain ⟨v, rfl, p, xs, rfl, s, d⟩ := a.one
  exact ⟨_, ds.length, rfl, .inl ⟨xs, SqL.of s, d.length.symm⟩, q _ H1 (Same.refl H1) (.int _)⟩
theorem ev_lenS {p : Addr} (h : EvC K C te σ H (.s p ds)) : EvC K C (tCB (rLen K) (tCons te tNil)) σ H (.d (.int ds.length)) := ev_cb (ea_consS h ea_nil) fun H1 _ vs a Q q => by
  obtain ⟨v, rfl, p, xs, rfl, s, d⟩ := a.one
  exact ⟨_, ds.length, rfl, .inl ⟨xs, SqL.of s, d.length.symm⟩, q _ H1 (Same.refl H1) (.int _)⟩
def rMax2 : List V → Hp → VK → Prop := fun xs H Q => ∃ i j, xs = [.int i, .int j] ∧ Q (.int (if j > i then j else i)) H
def rMin2 : List V → Hp → VK → Prop := fun xs H Q => ∃ i j, xs = [.int i, .int j] ∧ Q (.int (if j < i then j else i)) H
theorem call_max2' {X : Cx} (hc : X.calm = true) : CallR X (.builtin "max") rMax2 := call_max2 hc
theorem call_min2' {X : Cx} (hc : X.calm = true) : CallR X (.builtin "min") rMin2 := call_min2 hc
theorem ev_max2 {k j : Int} (ha : EvC K C ta σ H (.d (.int k))) (hb : EvC K C tb σ H (.d (.int j))) : EvC K C (tCB rMax2 (tCons ta (tCons tb tNil))) σ H (.d (.int (max k j))) := ev_cb (ea_cons ha (ea_cons hb ea_nil)) fun H1 _ vs a Q q => by
  obtain ⟨v, w, rfl, a, b⟩ := a.two
  rw [a.int_of, b.int_of]
  refine ⟨k, j, rfl, ?_⟩
  have e : (if j > k then j else k) = max k j := by split <;> omega
  rw [e]
  exact q _ H1 (Same.refl H1) (.int _)
theorem ev_min2 {k j : Int} (ha : EvC K C ta σ H (.d (.int k))) (hb : EvC K C tb σ H (.d (.int j))) : EvC K C (tCB rMin2 (tCons ta (tCons tb tNil))) σ H (.d (.int (min k j))) := ev_cb (ea_cons ha (ea_cons hb ea_nil)) fun H1 _ vs a Q q => by
  obtain ⟨v, w, rfl, a, b⟩ := a.two
  rw [a.int_of, b.int_of]
  refine ⟨k, j, rfl, ?_⟩
  have e : (if j < k then j else k) = min k j := by split <;> omega
  rw [e]
  exact q _ H1 (Same.refl H1) (.int _)
def rInt1 : List V → Hp → VK → Prop := fun xs H Q => (∃ i, xs = [.int i] ∧ Q (.int i) H) ∨ ∃ k, xs = [.bl k] ∧ Q (.int (if k then 1 else 0)) H
theorem call_int1' {X : Cx} : CallR X (.type "int") rInt1 := call_int1
theorem ev_int1 {k : Int} (ha : EvC K C ta σ H (.d (.int k))) : EvC K C (tCB rInt1 (tCons ta tNil)) σ H (.d (.int k)) := ev_cb (ea_cons ha ea_nil) fun H1 _ vs a Q q => by
  obtain ⟨v, rfl, a1⟩ := a.one
  rw [Td.int_of a1]
  exact .inl ⟨k, rfl, q _ H1 (Same.refl H1) (.int _)⟩
def rListOf (K : PySem.W.Frag) : List V → Hp → VK → Prop := fun xs H Q => ∃ p ys, xs = [.ref p] ∧ (SqL K H p ys ∨ SqT K H p ys) ∧ ∀ l, H l = none → Q (.ref l) (upd H l (.lst ys))
theorem call_list_of' {X : Cx} : CallR X (.type "list") (rListOf X.K) := call_list_of
theorem en_cb {r : List V → Hp → VK → Prop} {ts : TA} {as : List Ag} (h : EvA K C ts σ H as) (hr : ∀ H1, Same H H1 → ∀ vs, Args K C H1 vs as → ∀ Q : VK, (∀ p H2, H1 p = none → Same H1 H2 → CtAt K C H2 (.ref p) (.l p ds) → Q (.ref p) H2) → r vs H1 Q) : EvN K C (tCB r ts) σ H ds := fun H1 e1 Q q =>
  h H1 e1 _ fun vs H2 e2 a => hr H2 (e1.trans e2) vs a Q fun p H3 hp e3 => q p H3 (e2.free hp) (e2.trans e3)
theorem new_l {p : Addr} {xs : List V} (hp : H p = none) (d : TdAll K H xs ds) : CtAt K C (upd H p (.lst xs)) (.ref p) (.l p ds) := ⟨rfl, xs, upd_same, TdAll.mono (.of (same_new hp)) _ _ d⟩
theorem en_listZ {p : Addr} (h : EvC K C te σ H (.z p ds)) : EvN K C (tCB (rListOf K) (tCons te tNil)) σ H ds := en_cb (ea_cons h ea_nil) fun H1 _ vs a Q q => by
  obtain ⟨v, rfl, rfl, xs, s, d⟩ := a.one
  exact ⟨p, xs, rfl, .inl s.sq, fun l hl => q l _ hl (same_new hl) (new_l hl d)⟩
theorem ev_tupleL {p : Addr} (h : EvC K C te σ H (.l p ds)) : EvC K C (tCB (rTupleOf K) (tCons te tNil)) σ H (.d (.tuple ds)) := ev_cb (ea_consL h ea_nil) fun H1 _ vs a Q q => by
  obtain ⟨v, rfl, p, xs, rfl, s, d⟩ := a.one
  exact ⟨p, xs, rfl, .inl ⟨SqL.of s, fun l o hl ho => q _ _ (same_new hl) (new_t hl ho d)⟩⟩
theorem TdAll.bls : ∀ {bs : List Bool} {vs : List V}, TdAll K H vs (bs.map .bool) → vs = bs.map V.bl
  | [], _, h => by cases h; rfl
  | b :: bs, _, h => by
    cases h with
    | cons a r => rw [a.bl_of, TdAll.bls r]; rfl
theorem ev_allN {bs : List Bool} (h : EvN K C te σ H (bs.map .bool)) : EvC K C (tCB (rAll K) (tCons te tNil)) σ H (.d (.bool (bs.all id))) := ev_cb (ea_consN h ea_nil) fun H1 _ vs a Q q => by
  obtain ⟨v, rfl, p, xs, rfl, s, d⟩ := a.one
  rw [d.bls] at s
  exact ⟨p, bs, rfl, SqL.of s, q _ H1 (Same.refl H1) (.bl _)⟩
theorem atI_td {xs : List V} {k : Int} (a : TdAll K H xs ds) (h : atI ds k = some d) : ∃ v, atI xs k = some v ∧ Td K H v d := by
  unfold atI at h ⊢
  rw [a.length]
  cases e : ixN ds.length k with
  | none => rw [e] at h; cases h
  | some j =>
    rw [e] at h
    exact a.get h
theorem ev_ixT {k : Int} (ha : EvC K C ta σ H (.d (.tuple ds))) (hb : EvC K C tb σ H (.d (.int k))) (h : atI ds k = some d) : EvC K C (tOp (rIx K) ta tb) σ H (.d d) :=
  ev_op2 ha hb fun H1 _ x y a1 a2 Q q => by
    obtain ⟨p, xs, rfl, s, a⟩ := Td.tup_of a1
    obtain ⟨v, e, t⟩ := atI_td a h
    exact .inr (.inl ⟨p, xs, k, v, rfl, a2.int_of, s.sq, e, q v H1 (Same.refl H1) t⟩)
theorem ev_ixL {p : Addr} {k : Int} (ha : EvC K C ta σ H (.l p ds)) (hb : EvC K C tb σ H (.d (.int k))) (h : atI ds k = some d) : EvC K C (tOp (rIx K) ta tb) σ H (.d d) :=
  ev_op2 ha hb fun H1 _ x y a1 a2 Q q => by
    obtain ⟨rfl, xs, s, a⟩ := a1
    obtain ⟨v, e, t⟩ := atI_td a h
    exact .inl ⟨p, xs, k, v, rfl, a2.int_of, SqL.of s, e, q v H1 (Same.refl H1) t⟩
theorem ev_ixS {p : Addr} {k : Int} (ha : EvC K C ta σ H (.s p ds)) (hb : EvC K C tb σ H (.d (.int k))) (h : atI ds k = some d) : EvC K C (tOp (rIx K) ta tb) σ H (.d d) :=
  ev_op2 ha hb fun H1 _ x y a1 a2 Q q => by
    obtain ⟨rfl, xs, s, a⟩ := a1
    obtain ⟨v, e, t⟩ := atI_td a h
    exact .inl ⟨p, xs, k, v, rfl, a2.int_of, SqL.of s, e, q v H1 (Same.refl H1) t⟩
theorem ev_ixN {k : Int} (ha : EvN K C ta σ H ds) (hb : EvC K C tb σ H (.d (.int k))) (h : atI ds k = some d) : EvC K C (tOp (rIx K) ta tb) σ H (.d d) := fun H1 e1 Q q =>
  ha H1 e1 _ fun p H2 _ e2 a2 => hb H2 (e1.trans e2) _ fun y H3 e3 a3 => by
    obtain ⟨_, xs, s, a⟩ := CtAt.mono e3 a2
    obtain ⟨v, e, t⟩ := atI_td a h
    exact .inl ⟨p, xs, k, v, rfl, a3.int_of, SqL.of s, e, q v H3 (e2.trans e3) t⟩
theorem eo_none : EvO tNoPart σ H none := fun H1 _ _ q => q H1 (Same.refl H1)
theorem eo_some {k : Int} (h : EvC K C te σ H (.d (.int k))) : EvO (tPart te) σ H (some k) := fun H1 e _ q => h H1 e _ fun v H2 e2 a => ⟨k, a.int_of, q H2 e2⟩
def cutD {α : Type} (xs : List α) (lo hi : Option Int) : List α := (xs.drop (HT.sIx xs.length 0 lo)).take (HT.sIx xs.length xs.length hi - HT.sIx xs.length 0 lo)
theorem cut_td {xs : List V} (a : TdAll K H xs ds) (lo hi : Option Int) : TdAll K H (cutV xs lo hi) (cutD ds lo hi) := by
  unfold cutV cutD
  rw [a.length]
  exact (a.drop _).take _
def rSlU (K : PySem.W.Frag) : V → Option Int → Option Int → Hp → VK → Prop := fun x lo hi H Q => rSlL K x lo hi H Q ∨ rSlF K x lo hi H Q
theorem sl_U {X : Cx} : SlR X (rSlU X.K) := sl_list.or sl_tupF
theorem ev_slT {tl th : TO} {lo hi : Option Int} (h : EvC K C te σ H (.d (.tuple ds))) (h1 : EvO tl σ H lo) (h2 : EvO th σ H hi) : EvC K C (tSl (rSlU K) te tl th) σ H (.d (.tuple (cutD ds lo hi))) := fun H1 e Q q =>
  h H1 e _ fun v H2 e2 a => h1 H2 (e.trans e2) _ fun H3 e3 => h2 H3 ((e.trans e2).trans e3) _ fun H4 e4 => .inr (by
    obtain ⟨p, xs, rfl, s, d⟩ := Td.tup_of (CtAt.mono (e3.trans e4) a)
    refine ⟨p, xs, rfl, s.sq, fun hw => ?_, fun _ l o hl ho => q _ _ (((e2.trans e3).trans e4).trans (same_new hl)) (new_t hl ho (cut_td d lo hi))⟩
    refine q _ _ ((e2.trans e3).trans e4) ?_
    have z : cutD ds lo hi = ds := by
      unfold cutD
      rw [← d.length, hw.1, hw.2, Nat.sub_zero, List.drop_zero, d.length]
      exact List.take_length
    rw [z]
    exact .tup s d)
theorem en_addL {p : Addr} (ha : EvC K C ta σ H (.l p ds)) (hb : EvN K C tb σ H es) (hl : ds.length + es.length ≤ 10000000) : EvN K C (tOp (rAddU K) ta tb) σ H (ds ++ es) := fun H1 e1 Q q =>
  ha H1 e1 _ fun v H2 e2 a2 => hb H2 (e1.trans e2) _ fun p' H3 _ e3 a3 => .inr (.inr (by
    obtain ⟨rfl, xs, s1, d1⟩ := CtAt.mono e3 a2
    obtain ⟨_, ys, s2, d2⟩ := a3
    have l1 := d1.length
    have l2 := d2.length
    exact ⟨p, p', xs, ys, rfl, rfl, s1, s2, Nat.le_trans (by omega) (show 10000000 ≤ sizeLine by decide), fun l hl => q l _ ((e2.trans e3).free hl) ((e2.trans e3).trans (same_new hl)) (new_l hl (d1.append d2))⟩))
end
def spC (K : PySem.W.Frag) (C : Addr) (A : List Ag → PyData → Prop) : Sp := fun vs H Q _ => ∃ as d, Args K C H vs as ∧ A as d ∧ ∀ v H', Same H H' → Td K H' v d → Q v H'
def spN (K : PySem.W.Frag) (C : Addr) (A : List Ag → List PyData → Prop) : Sp := fun vs H Q _ => ∃ as ds, Args K C H vs as ∧ A as ds ∧ ∀ p H', H p = none → Same H H' → CtAt K C H' (.ref p) (.l p ds) → Q (.ref p) H'
section
variable {G : List (V × PyData)} {S : List Addr} {H0 : Hp} {σ : L2.St} {Γ : List Ct} {i j : Nat} {c : Ct} {te ta tb tc tl : TE} {t u : TT}
theorem ev_call {A : List Ag → PyData → Prop} {as : List Ag} {E : XK} {ts : TA} (h : EvA K C ts σ H as) (hA : A as d) : EvC K C (tCall (spC K C A) [] E ts) σ H (.d d) := fun H1 e1 Q q =>
  h H1 e1 _ fun vs H2 e2 a => ⟨as, d, by rw [List.append_nil]; exact a, hA, fun v H3 e3 t => q v H3 (e2.trans e3) t⟩
theorem en_call {A : List Ag → List PyData → Prop} {as : List Ag} {E : XK} {ts : TA} (h : EvA K C ts σ H as) (hA : A as ds) : EvN K C (tCall (spN K C A) [] E ts) σ H ds := fun H1 e1 Q q =>
  h H1 e1 _ fun vs H2 e2 a => ⟨as, ds, by rw [List.append_nil]; exact a, hA, fun p H3 hp e3 t => q p H3 (e2.free hp) (e2.trans e3) t⟩
def ArgsC (K : PySem.W.Frag) (C : Addr) (H : Hp) : List V → List Ct → Prop
  | [], [] => True
  | v :: vs, c :: cs => CtAt K C H v c ∧ ArgsC K C H vs cs
  | _, _ => False
theorem ArgsC.get : ∀ {vs : List V} {cs : List Ct} {i : Nat} {c : Ct}, ArgsC K C H vs cs → cs[i]? = some c → ∃ v, vs[i]? = some v ∧ CtAt K C H v c
  | [], [], _, _, _, e => by simp at e
  | v :: vs, c :: cs, 0, _, ⟨a, _⟩, e => by simp at e; subst e; exact ⟨v, rfl, a⟩
  | v :: vs, c :: cs, i + 1, _, ⟨_, b⟩, e => by
    obtain ⟨w, h1, h2⟩ := ArgsC.get b (show cs[i]? = _ by simpa using e)
    exact ⟨w, by simpa using h1, h2⟩
  | [], _ :: _, _, _, h, _ => h.elim
  | _ :: _, [], _, _, h, _ => h.elim
theorem ArgsC.length : ∀ {vs : List V} {cs : List Ct}, ArgsC K C H vs cs → vs.length = cs.length
  | [], [], _ => rfl
  | _ :: _, _ :: _, ⟨_, b⟩ => congrArg (· + 1) (ArgsC.length b)
  | [], _ :: _, h => h.elim
  | _ :: _, [], h => h.elim
theorem Wd.start0 {vs : List V} {cs : List Ct} {N : List Str} {S : List Addr} (h : ArgsC K C H vs cs) (hS : LT S H) (ho : ∀ c ∈ cs, c.own = true → ∀ a ∈ c.adr, a ∈ S)
    (hd : ∀ (i j : Nat) (c c' : Ct) (a : Addr), cs[i]? = some c → cs[j]? = some c' → a ∈ c.adr → a ∈ c'.adr → i = j ∨ (c.own = false ∧ c'.own = false)) (hl : vs.length ≤ N.length) :
    Wd K C S [] H H (L2.start N vs) (cs ++ List.replicate (N.length - vs.length) .u) := by
  have len := h.length
  have old : ∀ {i : Nat} {c : Ct}, (cs ++ List.replicate (N.length - vs.length) Ct.u)[i]? = some c → cs[i]? = some c ∨ c = .u := fun {i c} e => by
    by_cases hi : i < cs.length
    · rw [List.getElem?_append_left hi] at e; exact .inl e
    · rw [List.getElem?_append_right (by omega), List.getElem?_replicate] at e
      split at e
      · cases e; exact .inr rfl
      · cases e
  refine ⟨fun _ _ h _ => h, hS, ?_, fun i c e => ?_, fun i c e o a m => ?_, fun i j c c' a e e' m m' => ?_, fun p m => by simp at m⟩
  · unfold L2.start
    rw [List.length_append, List.length_append, List.length_map, List.length_replicate, List.length_replicate, len]
  · rcases old e with e | e
    · obtain ⟨v, h1, h2⟩ := h.get e
      refine .mk (v := v) ?_ h2
      unfold L2.start
      have hi := (List.getElem?_eq_some_iff.mp h1).1
      rw [List.getElem?_append_left (by simpa using hi), List.getElem?_map, h1]
      rfl
    · subst e; exact True.intro
  · rcases old e with e | e
    · exact .inl (ho c (List.mem_of_getElem? e) o a m)
    · subst e; cases o
  · rcases old e with e | e
    · rcases old e' with e' | e'
      · exact hd i j c c' a e e' m m'
      · subst e'; simp [Ct.adr] at m'
    · subst e; simp [Ct.adr] at m
theorem Wd.start {vs : List V} {cs : List Ct} {N : List Str} (h : ArgsC K C H vs cs) (ho : cs.all (fun c => !c.own) = true := by rfl) (hl : vs.length ≤ N.length := by decide) :
    Wd K C [] [] H H (L2.start N vs) (cs ++ List.replicate (N.length - vs.length) .u) := by
  have no : ∀ c ∈ cs, c.own = false := fun c m => by
    have := List.all_eq_true.mp ho c m
    simpa using this
  exact Wd.start0 h LT.nil (fun c m o => by rw [no c m] at o; cases o) (fun i j c c' a e e' _ _ => .inr ⟨no c (List.mem_of_getElem? e), no c' (List.mem_of_getElem? e')⟩) hl
theorem Wd.startH {v : V} {p q : Addr} {vs : List V} {cs : List Ct} {N : List Str} (h : ArgsC K C H (v :: vs) (.h p q :: cs)) (ho : cs.all (fun c => c.adr.isEmpty) = true := by rfl) (hl : (v :: vs).length ≤ N.length := by decide) :
    Wd K C [p, q] [] H H (L2.start N (v :: vs)) ((.h p q :: cs) ++ List.replicate (N.length - (v :: vs).length) .u) := by
  have no : ∀ c ∈ cs, c.adr = [] := fun c m => by
    have := List.all_eq_true.mp ho c m
    simpa using this
  obtain ⟨⟨_, _, s, k, cl, h1, h2, _⟩, _⟩ := id h
  refine Wd.start0 h (fun a m => ?_) (fun c m o a ma => ?_) (fun i j c c' a e e' m m' => ?_) hl
  · have e : a = p ∨ a = q := by simpa using m
    rcases e with e | e
    · subst e; exact ⟨_, h1, True.intro⟩
    · subst e; exact ⟨_, h2, True.intro⟩
  · rcases List.mem_cons.mp m with z | z
    · subst z; simpa [Ct.adr] using ma
    · rw [no c z] at ma; simp at ma
  · cases i with
    | zero =>
      cases j with
      | zero => exact .inl rfl
      | succ j => rw [no c' (List.mem_of_getElem? (show cs[j]? = some c' by simpa using e'))] at m'; simp at m'
    | succ i => rw [no c (List.mem_of_getElem? (show cs[i]? = some c by simpa using e))] at m; simp at m
variable {D : Ends} {tu tw : TS}
theorem s_seq (h : tu { D with nx := tw D } σ H) : tSeq tu tw D σ H := h
theorem s_next (h : D.nx σ H) : tNext D σ H := h
theorem s_asg (w : Wd K C S G H0 H σ Γ) (h : EvC K C te σ H c) (k : ∀ v σ1 H1, CtAt K C H1 v c → Wd K C S G H0 H1 σ1 (Γ.set i c) → D.nx σ1 H1) (ha : c.adr = [] := by rfl) : tAsg te (gName i) D σ H :=
  h H (Same.refl H) _ fun v H1 e a => k v _ H1 a ((w.mono e).set i a ha)
theorem s_asgN (w : Wd K C S G H0 H σ Γ) (h : EvN K C te σ H ds) (k : ∀ p σ1 H1, H0 p = none → Wd K C S G H0 H1 σ1 (Γ.set i (.l p ds)) → D.nx σ1 H1) : tAsg te (gName i) D σ H :=
  h H (Same.refl H) _ fun p H1 hp e a => k p _ H1 (w.fresh0 hp) (w.setN i e hp a)
theorem s_if (w : Wd K C S G H0 H σ Γ) {b : Bool} (h : EvT t σ H b) (h1 : b = true → ∀ H1, Wd K C S G H0 H1 σ Γ → tu D σ H1) (h2 : b = false → ∀ H1, Wd K C S G H0 H1 σ Γ → tw D σ H1) : tIfS t tu tw D σ H := h H (Same.refl H) _ fun H1 e => by
  cases b with
  | true => exact h1 rfl H1 (w.mono e)
  | false => exact h2 rfl H1 (w.mono e)
theorem s_ret (w : Wd K C S G H0 H σ Γ) (h : EvC K C te σ H c) (k : ∀ v H1, Wd K C S G H0 H1 σ Γ → CtAt K C H1 v c → D.rt v H1) : tRet te D σ H := h H (Same.refl H) _ fun v H1 e a => k v H1 (w.mono e) a
theorem s_retN (w : Wd K C S G H0 H σ Γ) (h : EvN K C te σ H ds) (k : ∀ p H1, H0 p = none → Wd K C S G H0 H1 σ Γ → CtAt K C H1 (.ref p) (.l p ds) → D.rt (.ref p) H1) : tRet te D σ H := h H (Same.refl H) _ fun p H1 hp e a => k p H1 (w.fresh0 hp) (w.mono e) a
theorem s_drop (w : Wd K C S G H0 H σ Γ) (h : EvC K C te σ H c) (k : ∀ H1, Wd K C S G H0 H1 σ Γ → D.nx σ H1) : tDrop te D σ H := h H (Same.refl H) _ fun v H1 e a => k H1 (w.mono e)
theorem s_app (w : Wd K C S G H0 H σ Γ) {p : Addr} (hi : Γ[i]? = some (.l p ds)) (h : EvC K C te σ H (.d d)) (hz : ds.length < 10000000) (k : ∀ H1, Wd K C S G H0 H1 σ (Γ.set i (.l p (ds ++ [d]))) → D.nx σ H1) :
    tDrop (tBM K "list" rAppend (tVar i) (tCons te tNil)) D σ H := by
  obtain ⟨v, e1, rfl, xs, e2, e3⟩ := w.get hi
  refine ⟨.ref p, e1, .inl ⟨rfl, xs, SqL.of e2⟩, ?_⟩
  refine h H (Same.refl H) _ fun y H1 e a => ?_
  refine ⟨p, xs, y, rfl, rfl, e _ _ e2, Nat.lt_of_lt_of_le (by rw [e3.length]; exact hz) (show 10000000 ≤ sizeLine by decide), ?_⟩
  exact k _ ((w.mono e).chg hi ((TdAll.mono (.of e) _ _ e3).append (.cons a .nil)))
theorem s_forR1 (w : Wd K C S G H0 H σ Γ) {n : Int} {ts : TA} (h : EvA K C ts σ H [.c (.d (.int n))]) (hn : n ≤ 10000000 ∧ -10000000 ≤ n) (Pv : Nat → L2.St → Hp → Prop) (h0 : ∀ H1, Wd K C S G H0 H1 σ Γ → Pv 0 σ H1)
    (hs : ∀ (k : Nat) σ' H', (k : Int) < n → Pv k σ' H' → tu { D with nx := Pv (k + 1), ct := Pv (k + 1), bk := D.nx } (σ'.set j (some (.int (k : Int)))) H') (hd : ∀ σ' H', Pv n.toNat σ' H' → D.nx σ' H') : tFor (iRng1 ts) (gName j) tu D σ H :=
  h H (Same.refl H) _ fun vs H1 e a => by
    obtain ⟨v, rfl, a1⟩ := a.one
    rw [Td.int_of a1]
    refine ⟨n, rfl, by omega, by omega, for_range (lo := 0) (n := n.toNat) Pv (h0 H1 (w.mono e)) (fun k σ' H' hk p => ?_) hd⟩
    show tu { D with nx := Pv (k + 1), ct := Pv (k + 1), bk := D.nx } (σ'.set j (some (.int ((0 : Int) + (k : Int))))) H'
    rw [Int.zero_add]
    exact hs k σ' H' (by omega) p
theorem s_forR2 (w : Wd K C S G H0 H σ Γ) {lo n : Int} {ts : TA} (h : EvA K C ts σ H [.c (.d (.int lo)), .c (.d (.int n))]) (hn : n ≤ 10000000 ∧ -10000000 ≤ n ∧ -10000000 ≤ lo ∧ lo ≤ 10000000) (Pv : Nat → L2.St → Hp → Prop) (h0 : ∀ H1, Wd K C S G H0 H1 σ Γ → Pv 0 σ H1)
    (hs : ∀ (k : Nat) σ' H', lo + (k : Int) < n → Pv k σ' H' → tu { D with nx := Pv (k + 1), ct := Pv (k + 1), bk := D.nx } (σ'.set j (some (.int (lo + (k : Int))))) H') (hd : ∀ σ' H', Pv (n - lo).toNat σ' H' → D.nx σ' H') : tFor (iRng2 ts) (gName j) tu D σ H :=
  h H (Same.refl H) _ fun vs H1 e a => by
    obtain ⟨v, v2, rfl, a, b⟩ := a.two
    rw [Td.int_of a, Td.int_of b]
    exact ⟨lo, n, rfl, ⟨by omega, by omega, by omega, by omega⟩, for_range (lo := lo) (n := (n - lo).toNat) Pv (h0 H1 (w.mono e)) (fun k σ' H' hk p => hs k σ' H' (by omega) p) hd⟩
theorem Wd.ghost (w : Wd K C S G H0 H σ Γ) (h : Td K H v d) : Wd K C S ((v, d) :: G) H0 H σ Γ := ⟨w.fr, w.sl, w.len, w.at_, w.wr, w.dj, fun p m => by
  rcases List.mem_cons.mp m with z | z
  · subst z; exact h
  · exact w.gh p z⟩
theorem Wd.unghost (w : Wd K C S ((v, d) :: G) H0 H σ Γ) : Wd K C S G H0 H σ Γ := ⟨w.fr, w.sl, w.len, w.at_, w.wr, w.dj, fun p m => w.gh p (List.mem_cons_of_mem _ m)⟩
theorem Wd.gh0 (w : Wd K C S ((v, d) :: G) H0 H σ Γ) : Td K H v d := w.gh _ List.mem_cons_self
def Turns (J : It) (g : TG) (tu : TS) (D : Ends) (σ : L2.St) (H : Hp) : Prop := ∃ W : Nat → Nat → L2.St → Hp → Prop, (∃ m, W 0 m σ H) ∧ ∀ i m σ H, W i m σ H →
  (J.stop i H ∧ D.nx σ H) ∨ (J.go i H ∧ ∃ N : L2.St → Hp → Prop, (∀ σ' H', N σ' H' → ∃ m', m' < m ∧ W (i + 1) m' σ' H') ∧ ∀ x H', J.yld i H x H' → g x σ H' fun σ2 H2 => tu { D with nx := N, ct := N, bk := D.nx } σ2 H2)
def Nth (K : PySem.W.Frag) (ds : List PyData) : Nat → Hp → V → Hp → Prop := fun i H v H' => H' = H ∧ ∃ d, ds[i]? = some d ∧ Td K H v d
theorem told_T {a : Addr} : Walk (Itt K a) ds.length (fun H => Td K H (.ref a) (.tuple ds)) (Nth K ds) := by
  have see : ∀ {H}, Td K H (.ref a) (.tuple ds) → ∃ xs, SqT K H a xs ∧ TdAll K H xs ds := fun t => by
    obtain ⟨_, xs, e, s, all⟩ := Td.tup_of t
    cases e
    exact ⟨xs, s.sq, all⟩
  refine ⟨fun i H lt t => ?_, fun H t => ?_, fun i H v H' _ t y => ?_⟩ <;> obtain ⟨xs, s, all⟩ := see t
  · exact ⟨xs, xs[i]'(by rw [all.length]; exact lt), s, List.getElem?_eq_getElem _⟩
  · exact ⟨xs, s, Nat.le_of_eq all.length⟩
  · exact ⟨y.1, all.get' (y.2 xs s)⟩
theorem told_L {a : Addr} : Walk (Itl K a) ds.length (fun H => ∃ xs, SqL K H a xs ∧ TdAll K H xs ds) (Nth K ds) :=
  ⟨fun i _ lt ⟨xs, s, all⟩ => ⟨xs, xs[i]'(by rw [all.length]; exact lt), s, List.getElem?_eq_getElem _⟩, fun _ ⟨xs, s, all⟩ => ⟨xs, s, Nat.le_of_eq all.length⟩, fun _ _ _ _ _ ⟨xs, s, all⟩ y => ⟨y.1, all.get' (y.2 xs s)⟩⟩
theorem turns_nth {J : It} {G : Hp → Prop} {g : TG} {D : Ends} (w : Walk J ds.length G (Nth K ds)) (Pv : Nat → L2.St → Hp → Prop) (h0 : Pv 0 σ H) (hw : ∀ k σ' H', Pv k σ' H' → G H')
    (hs : ∀ k d v σ' H', ds[k]? = some d → Td K H' v d → Pv k σ' H' → g v σ' H' fun σ2 H2 => tu { D with nx := Pv (k + 1), ct := Pv (k + 1), bk := D.nx } σ2 H2) (hd : ∀ σ' H', Pv ds.length σ' H' → D.nx σ' H') : Turns J g tu D σ H :=
  for_it w Pv h0 (fun k σ' H' _ p => hw k σ' H' p) (fun k v σ' H1 H' _ p ⟨e, d, at_, t⟩ => by subst e; exact hs k d v σ' _ at_ t p) hd
theorem walkL {a : Addr} {g : TG} {D : Ends} (Pv : Nat → L2.St → Hp → Prop) (h0 : Pv 0 σ H) (hw : ∀ k σ' H', Pv k σ' H' → ∃ xs, H' a = some (.lst xs) ∧ TdAll K H' xs ds)
    (hs : ∀ k d v σ' H', ds[k]? = some d → Td K H' v d → Pv k σ' H' → g v σ' H' fun σ2 H2 => tu { D with nx := Pv (k + 1), ct := Pv (k + 1), bk := D.nx } σ2 H2) (hd : ∀ σ' H', Pv ds.length σ' H' → D.nx σ' H') : Turns (Itl K a) g tu D σ H := turns_nth told_L Pv h0 (fun k σ' H' p => let ⟨xs, s, t⟩ := hw k σ' H' p; ⟨xs, SqL.of s, t⟩) hs hd
theorem wipe1 (σ : L2.St) (j : Nat) (x : Option V) : wipe ((wipe σ [j]).set j x) [j] = wipe σ [j] := by
  simp [wipe, List.set_set]
theorem Wd.wiped (w : Wd K C S G H0 H σ Γ) (j : Nat) : Wd K C S G H0 H (wipe σ [j]) (Γ.set j .u) := by
  have w1 := w.drop j
  unfold wipe wipe
  refine ⟨w1.fr, w1.sl, by rw [List.length_set]; exact w1.len, fun i c hi => ?_, w1.wr, w1.dj, w1.gh⟩
  by_cases e : i = j
  · subst e
    rcases set_cases hi with ⟨_, rfl, _⟩ | ⟨ne, _⟩
    · exact True.intro
    · exact absurd rfl ne
  · rw [List.getElem?_set_ne (Ne.symm e)]
    exact w1.at_ i c hi
def Cw (K : PySem.W.Frag) (H : Hp) (Dl : Addr) (es : List PyData) (H' : Hp) : Prop := H Dl = none ∧ Same H H' ∧ ∃ acc, H' Dl = some (.lst acc) ∧ TdAll K H' acc es
theorem Cw.start {Dl : Addr} (h : H Dl = none) : Cw K H Dl [] (upd H Dl (.lst [])) := ⟨h, same_new h, [], upd_same, .nil⟩
theorem cw_turn {Dl : Addr} {σ2 : L2.St} {b : Bool} (p : Cw K H Dl es H') (hl : es.length < 10000000) (ht : EvT t σ2 H b) (he : b = true → EvC K C te σ2 H (.d d)) :
    t σ2 H' fun b' H3 => if b' = true then te σ2 H3 fun y H4 => ∃ acc, H4 Dl = some (.lst acc) ∧ acc.length < sizeLine ∧ Cw K H Dl (if b = true then es ++ [d] else es) (upd H4 Dl (.lst (acc ++ [y]))) else Cw K H Dl (if b = true then es ++ [d] else es) H3 := by
  obtain ⟨p1, p2, acc, p3, p4⟩ := p
  refine ht H' p2 _ fun H3 e3 => ?_
  cases b with
  | true =>
    show te σ2 H3 fun y H4 => ∃ acc, H4 Dl = some (.lst acc) ∧ acc.length < sizeLine ∧ Cw K H Dl (es ++ [d]) (upd H4 Dl (.lst (acc ++ [y])))
    refine he rfl H3 (p2.trans e3) _ fun y H4 e4 a4 => ?_
    have s4 := e3.trans e4
    have q := s4 _ _ p3
    refine ⟨acc, q, Nat.lt_of_lt_of_le (by rw [p4.length]; exact hl) (show 10000000 ≤ sizeLine by decide), p1, fun a o ha => ?_, acc ++ [y], upd_same, ?_⟩
    · rw [upd_ne (ne_of_none ha p1)]
      exact s4 _ _ (p2 _ _ ha)
    · exact TdAll.mono (.fr (LT.one q) Fr.upd) _ _ ((TdAll.mono (.of s4) _ _ p4).append (.cons a4 .nil))
  | false =>
    exact ⟨p1, p2.trans e3, acc, e3 _ _ p3, TdAll.mono (.of e3) _ _ p4⟩
def kept {α : Type} (f : α → Bool) (g : α → PyData) (l : List α) : List PyData := (l.filter f).map g
theorem kept_step {α : Type} {f : α → Bool} {g : α → PyData} {l : List α} {k : Nat} {x : α} (h : l[k]? = some x) : kept f g (l.take (k + 1)) = if f x = true then kept f g (l.take k) ++ [g x] else kept f g (l.take k) := by
  unfold kept
  rw [List.take_add_one, h]
  show List.map g (List.filter f (l.take k ++ [x])) = _
  rw [List.filter_append, List.map_append]
  cases e : f x with
  | true => simp [e]
  | false => simp [e]
theorem kept_len {α : Type} {f : α → Bool} {g : α → PyData} {l : List α} {k : Nat} : (kept f g (l.take k)).length ≤ l.length := by
  unfold kept
  rw [List.length_map]
  exact Nat.le_trans (List.length_filter_le _ _) (by rw [List.length_take]; exact Nat.min_le_right _ _)
theorem en_lcT {α : Type} {l : List α} {mk : α → PyData} (w : Wd K C S G H0 H σ Γ) (hl : EvC K C tl σ H (.d (.tuple (l.map mk)))) (f : α → Bool) (g : α → PyData) (hz : l.length < 10000000)
    (ht : ∀ x ∈ l, ∀ σ1 H1, Wd K C S G H0 H1 σ1 ((Γ.set j .u).set j (.d (mk x))) → EvT t σ1 H1 (f x)) (he : ∀ x ∈ l, ∀ σ1 H1, Wd K C S G H0 H1 σ1 ((Γ.set j .u).set j (.d (mk x))) → f x = true → EvC K C te σ1 H1 (.d (g x))) :
    EvN K C (tLc (iTup K tl) (gName j) t te [j]) σ H (kept f g l) := fun H1 e1 Q q => hl H1 e1 _ fun v H2 e2 a => by
  obtain ⟨p, xs, rfl, s, td⟩ := Td.tup_of a
  have len : xs.length = l.length := by rw [td.length, List.length_map]
  refine ⟨p, rfl, ⟨xs, s.sq⟩, fun Dl hD => lc_tup (xs := xs) (fun k H' => Cw K H2 Dl (kept f g (l.take k)) H') (by rw [List.take_zero]; exact Cw.start hD) (fun k H' _ c => ((Tx.of c.2.1).sqF s).sq) (fun k x H' hk c => ?_) (fun H' c => ?_)⟩
  · have hk' : k < l.length := by rw [← len]; exact (List.getElem?_eq_some_iff.mp hk).1
    have ek : l[k]? = some l[k] := List.getElem?_eq_getElem hk'
    obtain ⟨d, h1, h2⟩ := td.get' hk
    have ed : d = mk l[k] := by rw [List.getElem?_map, ek] at h1; exact (Option.some.inj h1).symm
    subst ed
    have w2 : Wd K C S G H0 H2 ((wipe σ [j]).set j (some x)) ((Γ.set j .u).set j (.d (mk l[k]))) := ((w.mono (e1.trans e2)).wiped j).set j h2
    have m : l[k] ∈ l := List.getElem_mem hk'
    show wipe ((wipe σ [j]).set j (some x)) [j] = wipe σ [j] ∧ _
    refine ⟨wipe1 σ j _, ?_⟩
    have z := cw_turn (C := C) (te := te) (d := g l[k]) c (Nat.lt_of_le_of_lt kept_len hz) (ht _ m _ _ w2) (he _ m _ _ w2)
    rw [← kept_step ek] at z
    exact z
  · rw [len, List.take_length] at c
    obtain ⟨c1, c2, acc, c3, c4⟩ := c
    exact q Dl H' (e2.free c1) (e2.trans c2) ⟨rfl, acc, c3, c4⟩
theorem en_lcS {α : Type} {l : List α} {mk : α → PyData} {p : Addr} (w : Wd K C S G H0 H σ Γ) (hl : EvC K C tl σ H (.s p (l.map mk))) (f : α → Bool) (g : α → PyData) (hz : l.length < 10000000)
    (ht : ∀ x ∈ l, ∀ σ1 H1, Wd K C S G H0 H1 σ1 ((Γ.set j .u).set j (.d (mk x))) → EvT t σ1 H1 (f x)) (he : ∀ x ∈ l, ∀ σ1 H1, Wd K C S G H0 H1 σ1 ((Γ.set j .u).set j (.d (mk x))) → f x = true → EvC K C te σ1 H1 (.d (g x))) :
    EvN K C (tLc (iList K tl) (gName j) t te [j]) σ H (kept f g l) := fun H1 e1 Q q => hl H1 e1 _ fun v H2 e2 a => by
  obtain ⟨rfl, xs, s, td⟩ := a
  have len : xs.length = l.length := by rw [td.length, List.length_map]
  refine ⟨p, rfl, ⟨xs, SqL.of s⟩, fun Dl hD => lc_list (xs := xs) (fun k H' => Cw K H2 Dl (kept f g (l.take k)) H') (by rw [List.take_zero]; exact Cw.start hD) (fun k H' _ c => SqL.of (c.2.1 _ _ s)) (fun k x H' hk c => ?_) (fun H' c => ?_)⟩
  · have hk' : k < l.length := by rw [← len]; exact (List.getElem?_eq_some_iff.mp hk).1
    have ek : l[k]? = some l[k] := List.getElem?_eq_getElem hk'
    obtain ⟨d, h1, h2⟩ := td.get' hk
    have ed : d = mk l[k] := by rw [List.getElem?_map, ek] at h1; exact (Option.some.inj h1).symm
    subst ed
    have w2 : Wd K C S G H0 H2 ((wipe σ [j]).set j (some x)) ((Γ.set j .u).set j (.d (mk l[k]))) := ((w.mono (e1.trans e2)).wiped j).set j h2
    have m : l[k] ∈ l := List.getElem_mem hk'
    show wipe ((wipe σ [j]).set j (some x)) [j] = wipe σ [j] ∧ _
    refine ⟨wipe1 σ j _, ?_⟩
    have z := cw_turn (C := C) (te := te) (d := g l[k]) c (Nat.lt_of_le_of_lt kept_len hz) (ht _ m _ _ w2) (he _ m _ _ w2)
    rw [← kept_step ek] at z
    exact z
  · rw [len, List.take_length] at c
    obtain ⟨c1, c2, acc, c3, c4⟩ := c
    exact q Dl H' (e2.free c1) (e2.trans c2) ⟨rfl, acc, c3, c4⟩
theorem ev_lend {p : Addr} (h : EvC K C te σ H (.l p ds)) : EvC K C te σ H (.s p ds) := h
theorem en_lcR {ts : TA} {n : Int} (w : Wd K C S G H0 H σ Γ) (hl : EvA K C ts σ H [.c (.d (.int n))]) (f : Nat → Bool) (g : Nat → PyData) (hz : n < 10000000 ∧ -10000000 < n)
    (ht : ∀ x : Nat, (x : Int) < n → ∀ σ1 H1, Wd K C S G H0 H1 σ1 ((Γ.set j .u).set j (.d (.int x))) → EvT t σ1 H1 (f x)) (he : ∀ x : Nat, (x : Int) < n → ∀ σ1 H1, Wd K C S G H0 H1 σ1 ((Γ.set j .u).set j (.d (.int x))) → f x = true → EvC K C te σ1 H1 (.d (g x))) :
    EvN K C (tLc (iRng1 ts) (gName j) t te [j]) σ H (kept f g (List.range n.toNat)) := fun H1 e1 Q q => hl H1 e1 _ fun vs H2 e2 a => by
  obtain ⟨v, rfl, a1⟩ := a.one
  rw [Td.int_of a1]
  refine ⟨n, rfl, by omega, by omega, fun Dl hD => lc_range (lo := 0) (n := n.toNat) (fun k H' => Cw K H2 Dl (kept f g ((List.range n.toNat).take k)) H') (by rw [List.take_zero]; exact Cw.start hD) (fun k H' hk c => ?_) (fun H' c => ?_)⟩
  · have ek : (List.range n.toNat)[k]? = some k := by
      rw [List.getElem?_range hk]
    have w2 : Wd K C S G H0 H2 ((wipe σ [j]).set j (some (.int (0 + (k : Int))))) ((Γ.set j .u).set j (.d (.int k))) := ((w.mono (e1.trans e2)).wiped j).set j (by rw [Int.zero_add]; exact .int _)
    show wipe ((wipe σ [j]).set j (some (.int (0 + (k : Int))))) [j] = wipe σ [j] ∧ _
    refine ⟨wipe1 σ j _, ?_⟩
    have z := cw_turn (C := C) (te := te) (d := g k) c (Nat.lt_of_le_of_lt kept_len (by rw [List.length_range]; omega)) (ht k (by omega) _ _ w2) (he k (by omega) _ _ w2)
    rw [← kept_step ek] at z
    exact z
  · rw [List.take_of_length_le (show (List.range n.toNat).length ≤ n.toNat by simp)] at c
    obtain ⟨c1, c2, acc, c3, c4⟩ := c
    exact q Dl H' (e2.free c1) (e2.trans c2) ⟨rfl, acc, c3, c4⟩
theorem et_yes : EvT tYes σ H true := fun H1 _ Q q => q H1 (Same.refl H1)
end
end Pt
namespace Pt
open PySem PySem.Spec PyProof.Rows L2
def twoNew (o : Obj) (h : Heap) : Heap := (h.push o).push { cls := .type "enumerate", data := .fields #[.none, .bool false, .ref h.objs.size, rawInt 0, .none, .none] }
open AutoSeq1 (wpAny_loadPart') in
theorem enum_made {v : Value} {o : Obj} {Ok : Heap → Prop} (B : Begins v o Ok) : Meets (Builtin.«enumerate.__new__» ⟨[.type "enumerate", v], []⟩) (fun _ R s => Ok s.heap ∧ R (.ok (.ret (.ref (s.heap.objs.size + 1)))) { s with heap := twoNew o s.heap }) := by
  refine .of_wp fun prog w A R ⟨hp, gs, dr, tk, os⟩ ⟨ok, q⟩ => ?_
  have sub := sub_enumerate
  have more : (hp.push o).objs.size = hp.objs.size + 1 := Heap.size_push ..
  have iter : ∀ {A' : Around} {E Q : Value → Shared → Prop}, Q (.ref hp.objs.size) ⟨hp.push o, gs, dr, tk, os⟩ → wpAny (model prog w) A' (pyIter v) Q E ⟨hp, gs, dr, tk, os⟩ := B.iter prog w _ _ ⟨hp, gs, dr, tk, os⟩ _ ok
  have fin : ∀ {a : Addr}, a = (hp.push o).objs.size → R (.ok (.ret (.ref a))) ⟨twoNew o hp, gs, dr, tk, os⟩ := fun e => by rw [e, more]; exact q
  wp_walk using iter
  refine wpAny_stack_any fun st => wpAny_pure ?_
  split <;> first
    | (rename_i c _ _ _ _ _; cases (c == Value.type "enumerate") <;> (wp_walk using iter; exact ⟨_, rfl, fin rfl⟩))
    | (wp_walk using iter; exact ⟨_, rfl, fin rfl⟩)
theorem call_enumG {prog : Program} {w : World} {A : Around} {E Q : Value → Shared → Prop} {s : Shared} {v : Value} {o : Obj} {Ok : Heap → Prop} (B : Begins v o Ok) (ok : Ok s.heap)
    (q : ∀ h', (∀ b ob, s.heap.get? b = some ob → h'.get? b = some ob) → h'.get? s.heap.objs.size = some o → IsEnum h' (s.heap.objs.size + 1) s.heap.objs.size 0 .none → Q (.ref (s.heap.objs.size + 1)) { s with heap := h' }) : wpAny (model prog w) A (call (.type "enumerate") [v]) Q E s := by
  have at1 : (twoNew o s.heap).get? (s.heap.objs.size + 1) = some { cls := .type "enumerate", data := .fields #[.none, .bool false, .ref s.heap.objs.size, rawInt 0, .none, .none] } := by
    rw [← Heap.size_push s.heap o]
    exact Heap.get?_push_size _ rfl
  exact callType_new F.called_enumerate (by decide) (F.typeCall_enumerate_1 v) (F.newCall_enumerate_1 v) (fun z => F.args_object_init_2 z v) F.entry_enumerate_new (enum_made B)
    ⟨ok, ⟨_, at1, rfl⟩, q _ (fun b ob z => Heap.get?_push_of_some _ (Heap.get?_push_of_some _ z)) (Heap.get?_push_of_some _ (Heap.get?_push_size _ B.free)) at1⟩
def ItE (J : It) : It := ⟨J.go, fun i H v H' => ∃ T x, v = .ref T ∧ H T = none ∧ H' = upd H T (.tup [.int (i : Nat), x]) ∧ J.yld i H x H, J.stop⟩
structure DrawSrc (P : Program) (w : World) (K : PySem.W.Frag) (J : It) (it : Addr) (st : Nat → Heap → Prop) : Prop where
  obj : ∀ i h, st i h → ∃ o, h.get? it = some o ∧ ∀ v, o.data ≠ .cell v
  keep : ∀ i h h', st i h → (∀ o, h.get? it = some o → h'.get? it = some o) → st i h'
  draw : ∀ (X : Cx), X.prog = P → X.w = w → X.K = K → X.calm = true → ∀ (i : Nat) (pins : List (Addr × Obj)) (s : Shared) (σ : L2.St) (H : Hp), Inv X pins σ H s → st i s.heap → J.go i H → ∃ (fp : List Addr) (n : Nat) (Pv : Nat → Value → Prop) (Sv : Nat → Heap → Prop), Draws P w X.A.in1 it fp n Pv Sv ∧ (∀ b ∈ fp, ∃ o, s.heap.get? b = some o ∧ o.cls ≠ .type "enumerate") ∧ i < n ∧ Sv i s.heap ∧ (∀ h, Sv (i + 1) h → st (i + 1) h) ∧ ∀ u, Pv i u → ∃ x, RelV x u ∧ J.yld i H x H
  over : ∀ (X : Cx), X.prog = P → X.w = w → X.K = K → X.calm = true → ∀ (i : Nat) (pins : List (Addr × Obj)) (s : Shared) (σ : L2.St) (H : Hp), Inv X pins σ H s → st i s.heap → J.stop i H → ∃ (fp : List Addr) (n : Nat) (Pv : Nat → Value → Prop) (Sv : Nat → Heap → Prop), Draws P w X.A.in1 it fp n Pv Sv ∧ Sv n s.heap
section
variable {P : Program} {w : World} {K : PySem.W.Frag} {J : It} {it : Addr} {st : Nat → Heap → Prop}
theorem turn_enumG {elts : List Expr} {kk : Nat} {tpos : Pos} (S : DrawSrc P w K J it st) (e : Addr) : Turn P w K (.Tuple elts kk tpos) (ItE J) [e, it] e (fun i h => e ≠ it ∧ st i h ∧ ∃ old, IsEnum h e it ((i : Nat) : Int) old) where
  mem := List.mem_cons_self
  obj := fun i h z b m => by
    obtain ⟨_, z, _, en⟩ := z
    simp only [List.mem_cons, List.not_mem_nil, or_false] at m
    rcases m with rfl | rfl
    · exact ⟨_, en, fun v => nofun⟩
    · exact S.obj i h z
  keep := fun i h h' z k => ⟨z.1, S.keep i h h' z.2.1 (k it (by simp)), z.2.2.choose, k e (by simp) _ z.2.2.choose_spec⟩
  item := by
    rintro X rfl rfl rfl hc i pins s σ H E I free ⟨ne, z, old, en⟩ go
    obtain ⟨fp, n, Pv, Sv, D, other, lt, z1, nxt, val⟩ := S.draw X rfl rfl rfl hc i pins s σ H I z go
    have apart : e ∉ fp := fun m => by
      obtain ⟨o, h1, h2⟩ := other e m
      rw [en] at h1
      cases h1
      exact h2 rfl
    refine wpAny_pyNext_enum_itemD D en z1 lt ne apart fun u h1 tk pu out z2 tup _ k1 => ⟨_, rfl, wpAny_letOwnedTupleGo_enum (s := { s with heap := h1, toks := tk + 1 }) out fun h2 en2 same => ?_⟩
    obtain ⟨x, rx, y⟩ := val u pu
    have older : ∀ b ∈ [e, it], b < s.heap.objs.size := fun b m => by
      simp only [List.mem_cons, List.not_mem_nil, or_false] at m
      rcases m with rfl | rfl
      · exact Heap.lt_size en
      · exact Heap.lt_size (S.obj i _ z).choose_spec.1
    have tup2 := (same.2 s.heap.objs.size (Nat.ne_of_gt (older e (by simp)))).trans tup
    have k2 : ∀ b ob, b ∉ [e, it] → s.heap.get? b = some ob → h2.get? b = some ob := fun b ob m q => by
      simp only [List.mem_cons, List.not_mem_nil, or_false, not_or] at m
      exact (same.2 b m.1).trans (k1 b ob m.1 m.2 q)
    refine ⟨.ref s.heap.objs.size, _, I.turnedNew (t' := tk + 1) (ob := .tup [.int (i : Nat), x]) k2 free (Nat.le_refl _) ⟨show 2 ≤ sizeLine by decide, [.int i tk, u], .cons ⟨_, rfl⟩ (.cons rx .nil), _, tup2, rfl, _, rfl⟩, rfl, ⟨_, x, rfl, I.hok.fresh (Nat.le_refl _), rfl, y⟩, ⟨ne, S.keep _ h1 h2 (nxt h1 z2) fun o q => (same.2 it ne.symm).trans q, u, en2⟩, fun b m => ?_⟩
    rw [upd_ne (Nat.ne_of_lt (older b m))]
    exact (free b m).1
  done := by
    rintro X rfl rfl rfl hc i pins s σ H E I free ⟨ne, z, old, en⟩ stop
    obtain ⟨fp, n, Pv, Sv, D, z1⟩ := S.over X rfl rfl rfl hc i pins s σ H I z stop
    obtain ⟨g0, g1, g2, g3, g4, g5⟩ := free it (by simp)
    exact wpAny_pyNext_enum_endD D en z1 fun h1 k => ⟨rfl, I.turned (t' := s.toks) (fun b o m q => k b o m q) g0 g1 g3 g4 g5⟩
  self := fun A i s Q E z h => wpAny_pyIter_enum z.2.2.choose_spec h
end
theorem pi_enumG {X : Cx} {e : Expr} {ta : TA} {p pos tpos : Pos} {elts : List Expr} {kk : Nat} {Wv : List V → Hp → (It → Hp → Prop) → Prop} (hg : Gl X "enumerate") (hm : X.mg "enumerate" = none) (ha : PA X [e] ta)
    (src : ∀ (pins : List (Addr × Obj)) (s : Shared) (σ : L2.St) (H : Hp) (R : It → Hp → Prop) (vs : List V) (us : List Value), Inv X pins σ H s → Vals vs us → Wv vs H R →
      ∃ (v : Value) (o : Obj) (Ok : Heap → Prop) (J : It) (st : Nat → Heap → Prop), us = [v] ∧ Begins v o Ok ∧ Ok s.heap ∧ DrawSrc X.prog X.w X.K J s.heap.objs.size st ∧ (∀ h, h.get? s.heap.objs.size = some o → st 0 h) ∧ R (ItE J) H)
    (hs : starEach [e] X.env = [(false, eval e X.env)] := by rfl) : PI X (.Tuple elts kk tpos) (.Call (.Name "enumerate" p) [e] [] pos) (fun σ H R => ta σ H fun vs H1 => Wv vs H1 R) := ⟨fun pins s σ H R I h => by
  refine Call_ (ld_blt I hg hm boot_enumerate (PyProof.Rows.callWith_type1 (thn (ha.run pos pins s σ H _ I h) fun us s1 ⟨vs, H1, I1, r1, q1⟩ => ?_) hs rfl))
  obtain ⟨v, o, Ok, J, st, rfl, B, ok, S, st0, q⟩ := src pins s1 σ H1 R vs us I1 r1 q1
  refine call_enumG B ok fun h1 k at0 en => wpAny_pyIter_enum en ⟨_, _, _, _, H1, rfl, I1.kept (t' := s1.toks) k, turn_enumG S _, ⟨Nat.succ_ne_self _, st0 h1 at0, .none, en⟩, fun b m => ?_, q⟩
  have le : s1.heap.objs.size ≤ b := by
    simp only [List.mem_cons, List.not_mem_nil, or_false] at m
    rcases m with rfl | rfl
    · exact Nat.le_succ _
    · exact Nat.le_refl _
  exact I1.fpOk le (I1.hok.fresh le)⟩
theorem src_tup {P : Program} {w : World} {K : PySem.W.Frag} (a it : Addr) : DrawSrc P w K (Itt K a) it (fun i h => h.IsTupleIter it a i) where
  obj := fun i h ⟨o, h1, _, h2⟩ => ⟨o, h1, fun v z => by rw [h2] at z; cases z⟩
  keep := fun i h h' ⟨o, h1, h2⟩ k => ⟨o, k o h1, h2⟩
  draw := by
    rintro X rfl rfl rfl hc i pins s σ H I z ⟨xs, x, hs, hx⟩
    obtain ⟨its, rv, ⟨o, g1, g2, g3⟩, hz⟩ := I.tuple hs
    obtain ⟨ot, t1, t2, t3⟩ := id z
    obtain ⟨u, hu, ru⟩ := rv.get hx
    have ne : a ≠ it := fun q => by
      subst q
      rw [g1] at t1
      cases t1
      rw [g2] at t2
      exact absurd t2 (by decide)
    refine ⟨_, _, _, _, Draws.tuple (A := X.A.in1) (show X.A.in1.handled = none from I.ok.hd hc) it a ne its.toArray, fun b m => ?_, ?_, ⟨z, o, g1, g2, g3⟩, fun h q => q.1, fun u' hu' => ⟨x, ?_, rfl, fun ys hy => by rw [I.tuple_inj hy hs]; exact hx⟩⟩
    · simp only [List.mem_cons, List.not_mem_nil, or_false] at m
      rcases m with rfl | rfl
      · exact ⟨ot, t1, by rw [t2]; decide⟩
      · exact ⟨o, g1, by rw [g2]; decide⟩
    · have := (List.getElem?_eq_some_iff.mp hu).1
      simpa using this
    · have : its[i]? = some u' := by simpa using hu'
      rw [hu] at this
      cases this
      exact ru
  over := by
    rintro X rfl rfl rfl hc i pins s σ H I z ⟨xs, hs, hx⟩
    obtain ⟨its, rv, p, hz⟩ := I.tuple hs
    have gone : its.toArray[i]? = none := by
      have := rv.length
      simp
      omega
    refine ⟨[it, a], i, fun _ _ => False, fun j h => j = i ∧ h.IsTupleIter it a i ∧ h.IsTuple a its.toArray, ⟨fun j h q => let ⟨o, q, _⟩ := q.2.1; ⟨o, q⟩, ?_, ?_, ?_⟩, rfl, z, p⟩
    · exact fun j h h' q k => ⟨q.1, q.2.1.at fun o z => k it (by simp) o z, q.2.2.at fun o z => k a (by simp) o z⟩
    · exact fun j s' Q E lt q => absurd q.1 (by omega)
    · exact fun s' Q E q hE => wpAny_nextOf_tuple_end (show X.A.in1.handled = none from I.ok.hd hc) q.2.1 q.2.2 gone hE
def Itet (K : PySem.W.Frag) (a : Addr) : It := ItE (Itt K a)
def iEnumT (K : PySem.W.Frag) (ta : TA) : TI := fun σ H R => ta σ H fun vs H1 => ∃ a xs, vs = [.ref a] ∧ SqT K H1 a xs ∧ R (Itet K a) H1
theorem pi_enumT {X : Cx} {e : Expr} {ta : TA} {p pos tpos : Pos} {elts : List Expr} {kk : Nat} (hg : Gl X "enumerate") (hm : X.mg "enumerate" = none) (ha : PA X [e] ta) (hs : starEach [e] X.env = [(false, eval e X.env)] := by rfl) : PI X (.Tuple elts kk tpos) (.Call (.Name "enumerate" p) [e] [] pos) (iEnumT X.K ta) :=
  pi_enumG hg hm ha (fun pins s σ H R vs us I r z => by
    obtain ⟨a, xs, rfl, hq, q⟩ := z
    obtain ⟨u, rfl, ru⟩ := r.one
    obtain rfl : u = .ref a := ru
    obtain ⟨its, rv, p', hz⟩ := I.tuple hq
    exact ⟨_, _, _, _, _, rfl, begins_tuple a its.toArray, p', src_tup a _, fun h q => ⟨_, q, rfl, rfl⟩, q⟩) hs
end Pt
namespace Pt
open PySem PySem.Spec PyProof.Rows L2
end Pt
namespace Pt
open PySem PySem.Spec PyProof.Rows L2
def Sl3 (X : Cx) (r : V → Option Int → Option Int → Option Int → Hp → VK → Prop) : Prop := ∀ (pins : List (Addr × Obj)) (s : Shared) (σ : L2.St) (H : Hp) (Q : VK) (x : V) (v vl vu vs : Value) (lo hi st : Option Int) (sl : Addr), Inv X pins σ H s → RelV x v → s.heap.IsSliceOf sl vl vu vs → IsPart vl lo ∧ IsPart vu hi ∧ IsPart vs st → r x lo hi st H Q →
  ∃ T id, typeLookup (.type T) "__getitem__" = pure (some (.builtin id)) ∧ s.TypeIs v T ∧ wpAny (model X.prog X.w) X.A (getItem v (.ref sl)) (EP X pins σ Q) X.xe s
def tSl3 (r : V → Option Int → Option Int → Option Int → Hp → VK → Prop) (te : TE) (tl th ts : TO) : TE := fun σ H Q => te σ H fun x H1 => tl σ H1 fun lo H2 => th σ H2 fun hi H3 => ts σ H3 fun st H4 => r x lo hi st H4 Q
theorem pe_sl3 {X : Cx} {e : Expr} {lo hi st : Option Expr} {te : TE} {tl th ts : TO} {p2 pos : Pos} {r : V → Option Int → Option Int → Option Int → Hp → VK → Prop} (ops : Value → Value → List Value) (hop : ∀ v w, subscripted (.Slice lo hi st p2) false v w = operate (ops v w) (getItem v w)) (hr : Sl3 X r) (he : PE X e te) (hl : PO X lo tl) (hu : PO X hi th) (hs : PO X st ts) : PE X (.Subscript e (.Slice lo hi st p2) pos) (tSl3 r te tl th ts) :=
  ⟨fun pins s σ H Q I h => Subscript_ (thn (he.run pins s σ H _ I h) fun v _ ⟨x, _, I1, rx, h⟩ => wpAny_Slice (thn (hl.run pins _ σ _ _ I1 h) fun vl _ ⟨l, _, I2, pl, h⟩ => thn (hu.run pins _ σ _ _ I2 h) fun vu _ ⟨u, _, I3, pu, h⟩ => thn (hs.run pins _ σ _ _ I3 h) fun vs s4 ⟨t, H4, I4, pt, h⟩ => by
    obtain ⟨T, id, look, is, run⟩ := hr pins { s4 with heap := s4.heap.push { cls := .type "slice", data := .fields #[vl, vu, vs] } } σ H4 Q x v vl vu vs l u t _ (I4.kept (t' := s4.toks) fun _ _ z => Heap.get?_push_of_some _ z) rx (Heap.IsSliceOf.new _ _ _ _) ⟨pl, pu, pt⟩ h
    exact tail_any is look run (hop _ _)))⟩
end Pt
namespace Pt
open PySem PySem.Spec PyProof.Rows L2
section
variable {X : Cx}
def rInT (K : PySem.W.Frag) : R2 := fun x y H Q => ∃ d ds, Dp K H x d ∧ Dp K H y (.tuple ds) ∧ SeqAt.shaped d = true ∧ SeqAt.shaped (.tuple ds) = true ∧ Q (.bl (ds.any fun z => PyData.eqv z d)) H
theorem op_inT (hu : X.A.units + 65 < cLine) : OpR X (compareOp .In) (rInT X.K) := by
  intro pins s σ H x y v u Q I rx ry h
  obtain ⟨d, ds, hd, he, sd, se, q⟩ := h
  obtain ⟨as, r1⟩ := Dp.reads I d x v hd rx
  obtain ⟨bs, r2⟩ := Dp.reads I (.tuple ds) y u he ry
  exact SeqAt.in_tuple_reads r2 r1 (SeqAt.canLay_of_shaped se) (SeqAt.canLay_of_shaped sd) (room_in_shaped sd hu) ⟨.bl _, H, I, rfl, q⟩
end
end Pt
namespace Pt
open PySem PySem.Spec PyProof.Rows L2
variable {K : PySem.W.Frag} {C : Addr} {H H' H1 H2 : Hp} {v w x y : V} {vs : List V} {d e : PyData} {ds es : List PyData}
variable {S : List Addr} {G : List (V × PyData)} {H0 : Hp} {σ : L2.St} {Γ : List Ct} {i j : Nat} {c : Ct} {te ta tb tc tl : TE} {t u : TT}
theorem pt_tru {X : Cx} {a : Expr} {ta : TE} (ha : PE X a ta) (he : ∀ whole, isTrue a X.env whole = (do let v ← whole; standAt a.pos; holding [v] (truthy v))) : PT X a (tTru X.K ta) := pt_truth ha he
theorem et_truB {b : Bool} (h : EvC K C te σ H (.d (.bool b))) : EvT (tTru K te) σ H b := fun H1 e1 Q q => h H1 e1 _ fun v H2 e2 a => by
  rw [Td.bl_of a]
  exact ⟨b, rfl, q H2 e2⟩
theorem et_truT (h : EvC K C te σ H (.d (.tuple ds))) : EvT (tTru K te) σ H (!ds.isEmpty) := fun H1 e1 Q q => h H1 e1 _ fun v H2 e2 a => by
  obtain ⟨p, xs, rfl, s, t⟩ := Td.tup_of a
  refine ⟨!ds.isEmpty, .inr (.inl ⟨xs, s.sq, ?_⟩), q H2 e2⟩
  cases t <;> rfl
def tyName : PyData → String
  | .none => "NoneType"
  | .bool _ => "bool"
  | .int _ => "int"
  | .str _ => "str"
  | .list _ => "list"
  | .tuple _ => "tuple"
  | .dict _ => "dict"
theorem Td.ty : ∀ {d : PyData} {v : V}, Td K H v d → TyX K H v (.type (tyName d))
  | _, _, .non => .base .non
  | _, _, .bl b => .base (.bl b)
  | _, _, .int k => .base (.int k)
  | _, _, .str z => .base (.str z)
  | _, _, .tup s _ => by
    obtain ⟨o, s, _⟩ := s
    exact .fTuple s
  | _, _, .lst s _ => by
    obtain ⟨o, s⟩ := s
    exact .base (.frz s)
theorem ev_isi {T : String} {b : Bool} (h : EvC K C te σ H (.d d)) (hk : kitB (tyName d) T = some b) : EvC K C (tCB (rIsi K) (tCons te (tCons (tC (.ty T)) tNil))) σ H (.d (.bool b)) := fun H1 e1 Q q =>
  h H1 e1 _ fun v H2 e2 a => ⟨v, .ty T, _, _, b, rfl, .ty T, Td.ty a, kit_ty hk, q _ H2 e2 (.bl b)⟩
theorem shaped_pair (a b : Int) : SeqAt.shaped (.tuple [.int a, .int b]) = true := shaped_row [a, b]
theorem lay_pairs : ∀ ps : List (Int × Int), PyData.canLayAll0 (ps.map pairD) = true
  | [] => by simp [PyData.canLayAll0]
  | p :: ps => by
    have := lay_pairs ps
    simp [PyData.canLayAll0, PyData.canLay0, pairD, this]
theorem depth_pairs : ∀ ps : List (Int × Int), PyData.depthAll (ps.map pairD) ≤ 2
  | [] => by simp [PyData.depthAll]
  | p :: ps => by
    have := depth_pairs ps
    simp only [List.map_cons, PyData.depthAll, PyData.depth, pairD]
    omega
theorem shaped_pairs (ps : List (Int × Int)) : SeqAt.shaped (pairsD ps) = true := by
  show ((pairsD ps).canLay0 && decide ((pairsD ps).depth ≤ 64)) = true
  have h1 := depth_pairs ps
  rw [Bool.and_eq_true]
  refine ⟨?_, decide_eq_true ?_⟩
  · simp only [pairsD, PyData.canLay0]; exact lay_pairs ps
  · simp only [pairsD, PyData.depth]; omega
theorem any_pairs (a b : Int) : ∀ ps : List (Int × Int), ((ps.map pairD).any fun z => PyData.eqv z (.tuple [.int a, .int b])) = decide ((a, b) ∈ ps)
  | [] => by simp
  | (x, y) :: ps => by
    rw [List.map_cons, List.any_cons, any_pairs a b ps]
    have e : PyData.eqv (pairD (x, y)) (.tuple [.int a, .int b]) = decide ((a, b) = (x, y)) := by
      have z := eqv_row [x, y] [a, b]
      show PyData.eqv (row [x, y]) (row [a, b]) = _
      rw [z]
      by_cases q : (a, b) = (x, y)
      · cases q; simp
      · rw [decide_eq_false q, decide_eq_false]
        intro q'
        apply q
        simp at q'
        rw [q'.1, q'.2]
    rw [e]
    by_cases q : (a, b) = (x, y)
    · simp [q]
    · simp [q]
theorem ev_inP {a b : Int} {ps : List (Int × Int)} (ha : EvC K C ta σ H (.d (.tuple [.int a, .int b]))) (hb : EvC K C tb σ H (.d (pairsD ps))) : EvC K C (tOp (rInT K) ta tb) σ H (.d (.bool (decide ((a, b) ∈ ps)))) :=
  any_pairs a b ps ▸ ev_op2 ha hb fun H1 _ x y a1 a2 Q q => ⟨_, ps.map pairD, Td.dp _ _ a1, Td.dp _ _ a2, shaped_pair a b, shaped_pairs ps, q _ H1 (Same.refl H1) (.bl _)⟩
theorem kne : (("_pairs" : Str) == "_letters") = false := by decide +kernel
theorem flds_pairs (n : Int) (r : Addr) : (flds n r).lookup ("_pairs" : Str) = some (.ref r) := by
  unfold flds
  rw [List.lookup_cons, kne, List.lookup_cons, beq_self_eq_true]
theorem ev_letters {n : Int} {ps : List (Int × Int)} {E : XK} (ha : EvC K C ta σ H (.t n ps)) : EvC K C (tProp C (getSp C "_letters") [] E ta) σ H (.d (.int n)) := fun H1 e1 Q q =>
  ha H1 e1 _ fun v H2 e2 a => by
    obtain ⟨p, dx, r, rfl, h1, h2⟩ := a
    exact ⟨p, dx, _, rfl, h1, p, dx, _, .int n, rfl, h1, rfl, q _ H2 e2 (.int n)⟩
theorem ev_pairs {n : Int} {ps : List (Int × Int)} {E : XK} (ha : EvC K C ta σ H (.t n ps)) : EvC K C (tProp C (getSp C "_pairs") [] E ta) σ H (.d (pairsD ps)) := fun H1 e1 Q q =>
  ha H1 e1 _ fun v H2 e2 a => by
    obtain ⟨p, dx, r, rfl, h1, h2⟩ := a
    exact ⟨p, dx, _, rfl, h1, p, dx, _, .ref r, rfl, h1, flds_pairs _ _, q _ H2 e2 h2⟩
section
variable {X : Cx} (K : PySem.W.Frag)
theorem op_addK (h : X.K = K := by rfl) : OpR X (binaryOp .Add) (rAddU K) := h ▸ op_addU
theorem op_eqK (hu : X.A.units + 64 < cLine) (h : X.K = K := by rfl) : OpR X (compareOp .Eq) (rEqD K) := h ▸ op_eqD hu
theorem op_neK (hu : X.A.units + 64 < cLine) (h : X.K = K := by rfl) : OpR X (compareOp .NotEq) (rNeD K) := h ▸ op_neD hu
theorem op_inTK (hu : X.A.units + 65 < cLine) (h : X.K = K := by rfl) : OpR X (compareOp .In) (rInT K) := h ▸ op_inT hu
theorem op_leTK (hu : X.A.units < cLine) (h : X.K = K := by rfl) : OpR X (compareOp .LtE) (rLeT K) := h ▸ op_leT hu
theorem ix_K (h : X.K = K := by rfl) : IxR X (rIx K) := h ▸ ix_seq
theorem sl_K (h : X.K = K := by rfl) : SlR X (rSlU K) := h ▸ sl_U
theorem call_lenK (h : X.K = K := by rfl) : CallR X (.builtin "len") (rLen K) := h ▸ call_len1
theorem call_listK (h : X.K = K := by rfl) : CallR X (.type "list") (rListOf K) := h ▸ call_list_of'
theorem call_tupleK (h : X.K = K := by rfl) : CallR X (.type "tuple") (rTupleOf K) := h ▸ call_tuple_of'
theorem call_allK (hc : X.calm = true) (h : X.K = K := by rfl) : CallR X (.builtin "all") (rAll K) := h ▸ cr_all hc
theorem call_isiK (h : X.K = K := by rfl) : CallR X (.builtin "isinstance") (rIsi K) := h ▸ call_isi
theorem pt_truK {a : Expr} {ta : TE} (ha : PE X a ta) (he : ∀ whole, isTrue a X.env whole = (do let v ← whole; standAt a.pos; holding [v] (truthy v))) (h : X.K = K := by rfl) : PT X a (tTru K ta) := h ▸ pt_tru ha he
theorem pi_tupK {tg l : Expr} {tl : TE} (hl : PE X l tl) (h : X.K = K := by rfl) : PI X tg l (iTup K tl) := h ▸ pi_tup hl
theorem pi_listK {tg l : Expr} {tl : TE} (hl : PE X l tl) (h : X.K = K := by rfl) : PI X tg l (iList K tl) := h ▸ pi_list hl
end
theorem Wd.start1 {N : List Str} {v1 : V} {c1 : Ct} (a1 : AgAt K C H v1 (.c c1)) (ho : [c1].all (fun c => !c.own) = true := by rfl) (hl : 1 ≤ N.length := by decide) :
    Wd K C [] [] H H (L2.start N [v1]) ([c1] ++ List.replicate (N.length - 1) .u) := Wd.start (vs := [v1]) (cs := [c1]) ⟨a1, True.intro⟩ ho hl
theorem Wd.start2 {N : List Str} {v1 v2 : V} {c1 c2 : Ct} (a1 : AgAt K C H v1 (.c c1)) (a2 : AgAt K C H v2 (.c c2)) (ho : [c1, c2].all (fun c => !c.own) = true := by rfl) (hl : 2 ≤ N.length := by decide) :
    Wd K C [] [] H H (L2.start N [v1, v2]) ([c1, c2] ++ List.replicate (N.length - 2) .u) := Wd.start (vs := [v1, v2]) (cs := [c1, c2]) ⟨a1, a2, True.intro⟩ ho hl
theorem Wd.start3 {N : List Str} {v1 v2 v3 : V} {c1 c2 c3 : Ct} (a1 : AgAt K C H v1 (.c c1)) (a2 : AgAt K C H v2 (.c c2)) (a3 : AgAt K C H v3 (.c c3)) (ho : [c1, c2, c3].all (fun c => !c.own) = true := by rfl) (hl : 3 ≤ N.length := by decide) :
    Wd K C [] [] H H (L2.start N [v1, v2, v3]) ([c1, c2, c3] ++ List.replicate (N.length - 3) .u) := Wd.start (vs := [v1, v2, v3]) (cs := [c1, c2, c3]) ⟨a1, a2, a3, True.intro⟩ ho hl
theorem AgAt.lent {ds : List PyData} (h : AgAt K C H v (.n ds)) : ∃ p, AgAt K C H v (.c (.s p ds)) := let ⟨p, xs, a, b, c⟩ := h; ⟨p, a, xs, b, c⟩
theorem ev_isiI {T : String} {b : Bool} {k : Int} (h : EvC K C te σ H (.d (.int k))) (hk : kitB "int" T = some b) : EvC K C (tCB (rIsi K) (tCons te (tCons (tC (.ty T)) tNil))) σ H (.d (.bool b)) := ev_isi h hk
theorem ev_isiT {T : String} {b : Bool} (h : EvC K C te σ H (.d (.tuple ds))) (hk : kitB "tuple" T = some b) : EvC K C (tCB (rIsi K) (tCons te (tCons (tC (.ty T)) tNil))) σ H (.d (.bool b)) := ev_isi h hk
variable {D : Ends}
theorem s_retQ {Q : VK} {nx : L2.St → Hp → Prop} {bk ct} (w : Wd K C [] G H0 H σ Γ) (q : ∀ v H', Same H0 H' → Td K H' v d → Q v H') (h : EvC K C te σ H (.d d)) : tRet te { nx := nx, rt := Q, bk := bk, ct := ct } σ H := s_ret w h fun v H1 w1 a => q v H1 w1.fr0 a
theorem s_retNQ {Q : VK} {nx : L2.St → Hp → Prop} {bk ct} (w : Wd K C [] G H0 H σ Γ) (q : ∀ p H', H0 p = none → Same H0 H' → CtAt K C H' (.ref p) (.l p ds) → Q (.ref p) H') (h : EvN K C te σ H ds) : tRet te { nx := nx, rt := Q, bk := bk, ct := ct } σ H := s_retN w h fun p H1 hp w1 a => q p H1 hp w1.fr0 a
variable {tu tw tz : TS}
theorem s_when (w : Wd K C S G H0 H σ Γ) {b : Bool} (h : EvT t σ H b) (h1 : b = true → ∀ H1, Wd K C S G H0 H1 σ Γ → tu { D with nx := tz D } σ H1) (h2 : b = false → ∀ H1, Wd K C S G H0 H1 σ Γ → tz D σ H1) : tSeq (tIfS t tu tNext) tz D σ H :=
  s_seq (s_if w h h1 h2)
theorem ev_varD (w : Wd K C S G H0 H σ Γ) (h : Γ[i]? = some (.d d)) : EvC K C (tVar i) σ H (.d d) := ev_var w h
theorem ev_varT {n : Int} {ps : List (Int × Int)} (w : Wd K C S G H0 H σ Γ) (h : Γ[i]? = some (.t n ps)) : EvC K C (tVar i) σ H (.t n ps) := ev_var w h
end Pt
namespace Pt
open PySem PySem.Spec PyProof.Rows L2
theorem walk_E {J : It} {n : Nat} {G : Hp → Prop} {Y : Nat → Hp → V → Hp → Prop} (w : Walk J n G Y) : Walk (ItE J) n G (fun i H v H' => ∃ T x, v = .ref T ∧ H T = none ∧ H' = upd H T (.tup [.int (i : Nat), x]) ∧ Y i H x H) :=
  ⟨w.goes, w.stops, fun i H _ _ lt g ⟨T, x, a, b, c, y⟩ => ⟨T, x, a, b, c, w.yields i H x H lt g y⟩⟩
section
variable {P : Program} {w : World} {K : PySem.W.Frag} {tg : Expr} {J : It} {it : Addr} {st : Nat → Heap → Prop}
variable {D : HO} {d : Addr} {o : Obj} {n : Nat} {keys vals : Nat → V → Prop} {es : Array DictEntry} {ep : Nat}
end
end Pt
namespace Pt
open PySem PySem.Spec PyProof.Rows L2
section
variable {X : Cx} {D : HO} {d : Addr} {o : Obj} {n : Nat} {keys vals : Nat → V → Prop} {pins : List (Addr × Obj)} {σ : L2.St} {H : Hp} {s : Shared} {tg : Expr} {R : It → Hp → Prop}
end
end Pt
namespace Pt
open PySem PySem.Spec PyProof.Rows L2
variable {K : PySem.W.Frag} {C : Addr} {H H' H1 H2 : Hp} {v w x y : V} {vs : List V} {d e : PyData} {ds es : List PyData}
variable {S : List Addr} {G : List (V × PyData)} {H0 : Hp} {σ : L2.St} {Γ : List Ct} {i j : Nat} {c : Ct} {te ta tb tc tl : TE} {t u : TT}
structure InsK (K : PySem.W.Frag) (C : Addr) : Prop extends C8.InsC K C where
  nt : PySem.W.kitOne K (.type "tuple") (.ref C) = some false
theorem ev_isiTr {n : Int} {ps : List (Int × Int)} (ic : InsK K C) (h : EvC K C te σ H (.t n ps)) : EvC K C (tCB (rIsi K) (tCons te (tCons (tC (.ref C)) tNil))) σ H (.d (.bool true)) := fun H1 e1 Q q =>
  h H1 e1 _ fun v H2 e2 a => by
    obtain ⟨p, dx, r, rfl, h1, h2⟩ := a
    exact ⟨.ref p, .ref C, _, _, true, rfl, .own C, .base (.ins h1 ic.cl ic.ha ic.hn ic.htk ic.hm), ic.me, q _ H2 e2 (.bl true)⟩
theorem kept_all {α : Type} (g : α → PyData) (l : List α) : kept (fun _ => true) g l = l.map g := by
  unfold kept
  rw [List.filter_eq_self.mpr (fun _ _ => rfl)]
variable {D : Ends} {tu tw tz : TS}
theorem q_asg (w : Wd K C S G H0 H σ Γ) (h : EvC K C te σ H c) (k : ∀ v σ1 H1, CtAt K C H1 v c → Wd K C S G H0 H1 σ1 (Γ.set i c) → tz D σ1 H1) (ha : c.adr = [] := by rfl) : tSeq (tAsg te (gName i)) tz D σ H := s_asg (D := { D with nx := tz D }) w h k ha
theorem q_asgD (w : Wd K C S G H0 H σ Γ) (h : EvC K C te σ H (.d d)) (k : ∀ σ1 H1, Wd K C S G H0 H1 σ1 (Γ.set i (.d d)) → tz D σ1 H1) : tSeq (tAsg te (gName i)) tz D σ H := s_asg (D := { D with nx := tz D }) w h (fun _ σ1 H1 _ w1 => k σ1 H1 w1)
theorem q_asgN (w : Wd K C S G H0 H σ Γ) (h : EvN K C te σ H ds) (k : ∀ p σ1 H1, H0 p = none → Wd K C S G H0 H1 σ1 (Γ.set i (.l p ds)) → tz D σ1 H1) : tSeq (tAsg te (gName i)) tz D σ H := s_asgN (D := { D with nx := tz D }) w h k
theorem q_if (w : Wd K C S G H0 H σ Γ) {b : Bool} (h : EvT t σ H b) (h1 : b = true → ∀ H1, Wd K C S G H0 H1 σ Γ → tu { D with nx := tz D } σ H1) (h2 : b = false → ∀ H1, Wd K C S G H0 H1 σ Γ → tw { D with nx := tz D } σ H1) : tSeq (tIfS t tu tw) tz D σ H := s_if (D := { D with nx := tz D }) w h h1 h2
theorem q_drop (w : Wd K C S G H0 H σ Γ) (h : EvC K C te σ H c) (k : ∀ H1, Wd K C S G H0 H1 σ Γ → tz D σ H1) : tSeq (tDrop te) tz D σ H := s_drop (D := { D with nx := tz D }) w h k
theorem q_app (w : Wd K C S G H0 H σ Γ) {p : Addr} (hi : Γ[i]? = some (.l p ds)) (h : EvC K C te σ H (.d d)) (hz : ds.length < 10000000) (k : ∀ H1, Wd K C S G H0 H1 σ (Γ.set i (.l p (ds ++ [d]))) → tz D σ H1) :
    tSeq (tDrop (tBM K "list" rAppend (tVar i) (tCons te tNil))) tz D σ H := s_app (D := { D with nx := tz D }) w hi h hz k
theorem q_forR1 (w : Wd K C S G H0 H σ Γ) {n : Int} {ts : TA} (h : EvA K C ts σ H [.c (.d (.int n))]) (hn : n ≤ 10000000 ∧ -10000000 ≤ n) (Pv : Nat → L2.St → Hp → Prop) (h0 : ∀ H1, Wd K C S G H0 H1 σ Γ → Pv 0 σ H1)
    (hs : ∀ (k : Nat) σ' H', (k : Int) < n → Pv k σ' H' → tu { D with nx := Pv (k + 1), ct := Pv (k + 1), bk := tz D } (σ'.set j (some (.int (k : Int)))) H') (hd : ∀ σ' H', Pv n.toNat σ' H' → tz D σ' H') : tSeq (tFor (iRng1 ts) (gName j) tu) tz D σ H :=
  s_forR1 (D := { D with nx := tz D }) w h hn Pv h0 hs hd
theorem q_forR2 (w : Wd K C S G H0 H σ Γ) {lo n : Int} {ts : TA} (h : EvA K C ts σ H [.c (.d (.int lo)), .c (.d (.int n))]) (hn : n ≤ 10000000 ∧ -10000000 ≤ n ∧ -10000000 ≤ lo ∧ lo ≤ 10000000) (Pv : Nat → L2.St → Hp → Prop) (h0 : ∀ H1, Wd K C S G H0 H1 σ Γ → Pv 0 σ H1)
    (hs : ∀ (k : Nat) σ' H', lo + (k : Int) < n → Pv k σ' H' → tu { D with nx := Pv (k + 1), ct := Pv (k + 1), bk := tz D } (σ'.set j (some (.int (lo + (k : Int))))) H') (hd : ∀ σ' H', Pv (n - lo).toNat σ' H' → tz D σ' H') : tSeq (tFor (iRng2 ts) (gName j) tu) tz D σ H :=
  s_forR2 (D := { D with nx := tz D }) w h hn Pv h0 hs hd
theorem walkE {a : Addr} {D : Ends} {i j : Nat} (Pv : Nat → L2.St → Hp → Prop) (h0 : Pv 0 σ H) (hw : ∀ k σ' H', Pv k σ' H' → Td K H' (.ref a) (.tuple ds))
    (hs : ∀ k d v σ' H' H2, ds[k]? = some d → Td K H2 v d → Pv k σ' H' → Same H' H2 → tu { D with nx := Pv (k + 1), ct := Pv (k + 1), bk := D.nx } ((σ'.set i (some (.int (k : Nat)))).set j (some v)) H2) (hd : ∀ σ' H', Pv ds.length σ' H' → D.nx σ' H') : Turns (Itet K a) (gTup K 2 (gCons (gName i) (gCons (gName j) gNil))) tu D σ H :=
  for_it (walk_E told_T) Pv h0 (fun k σ' H' _ p => hw k σ' H' p) (fun k v σ' H1 H' _ p ⟨T, x, ev, nT, eH, _, d, at_, t⟩ => by
    subst ev eH
    exact ⟨T, _, rfl, SqT.of upd_same, rfl, .int (k : Nat), [x], rfl, x, [], rfl, rfl, hs k d x σ' H1 _ at_ (Td.mono (.of (same_new nT)) _ _ t) p (same_new nT)⟩) hd
theorem q_forE {i j : Nat} (w : Wd K C S G H0 H σ Γ) (h : EvC K C tl σ H (.d (.tuple ds))) (Pv : Addr → Nat → L2.St → Hp → Prop) (h0 : ∀ a H1, Wd K C S ((.ref a, .tuple ds) :: G) H0 H1 σ Γ → Pv a 0 σ H1)
    (hw : ∀ a k σ' H', Pv a k σ' H' → Td K H' (.ref a) (.tuple ds))
    (hs : ∀ a k d v σ' H' H2, ds[k]? = some d → Td K H2 v d → Pv a k σ' H' → Same H' H2 → tu { D with nx := Pv a (k + 1), ct := Pv a (k + 1), bk := tz D } ((σ'.set i (some (.int (k : Nat)))).set j (some v)) H2) (hd : ∀ a σ' H', Pv a ds.length σ' H' → tz D σ' H') :
    tSeq (tFor (iEnumT K (tCons tl tNil)) (gTup K 2 (gCons (gName i) (gCons (gName j) gNil))) tu) tz D σ H :=
  s_seq (h H (Same.refl H) _ fun v H1 e a => by
    obtain ⟨p, xs, rfl, s, t⟩ := Td.tup_of a
    exact ⟨p, xs, rfl, s.sq, walkE (D := { D with nx := tz D }) (Pv p) (h0 p H1 ((w.mono e).ghost a)) (hw p) (hs p) (hd p)⟩)
theorem s_forE {i j : Nat} (w : Wd K C S G H0 H σ Γ) (h : EvC K C tl σ H (.d (.tuple ds))) (Pv : Addr → Nat → L2.St → Hp → Prop) (h0 : ∀ a H1, Wd K C S ((.ref a, .tuple ds) :: G) H0 H1 σ Γ → Pv a 0 σ H1)
    (hw : ∀ a k σ' H', Pv a k σ' H' → Td K H' (.ref a) (.tuple ds))
    (hs : ∀ a k d v σ' H' H2, ds[k]? = some d → Td K H2 v d → Pv a k σ' H' → Same H' H2 → tu { D with nx := Pv a (k + 1), ct := Pv a (k + 1), bk := D.nx } ((σ'.set i (some (.int (k : Nat)))).set j (some v)) H2) (hd : ∀ a σ' H', Pv a ds.length σ' H' → D.nx σ' H') :
    tFor (iEnumT K (tCons tl tNil)) (gTup K 2 (gCons (gName i) (gCons (gName j) gNil))) tu D σ H :=
  h H (Same.refl H) _ fun v H1 e a => by
    obtain ⟨p, xs, rfl, s, t⟩ := Td.tup_of a
    exact ⟨p, xs, rfl, s.sq, walkE (Pv p) (h0 p H1 ((w.mono e).ghost a)) (hw p) (hs p) (hd p)⟩
theorem pi_enumTK (K : PySem.W.Frag) {X : Cx} {e : Expr} {ta : TA} {p pos tpos : Pos} {elts : List Expr} {kk : Nat} (hg : Gl X "enumerate") (hm : X.mg "enumerate" = none) (ha : PA X [e] ta) (hK : X.K = K := by rfl) (hs : starEach [e] X.env = [(false, eval e X.env)] := by rfl) :
    PI X (.Tuple elts kk tpos) (.Call (.Name "enumerate" p) [e] [] pos) (iEnumT K ta) := hK ▸ pi_enumT hg hm ha hs
theorem pg_tupK (K : PySem.W.Frag) {X : Cx} {pos : Pos} {es : List Expr} {k : Nat} {t : TGs} {n : Nat} (hc : X.calm = true) (h : PGs X es t) (hK : X.K = K := by rfl)
    (hn : (assignEach es X.env).length = n := by rfl) (hst : (assignEach es X.env).findIdx? (·.1) = none := by rfl) : PG X (.Tuple es k pos) (gTup K n t) := hK ▸ pg_tup hc h hn hst
theorem ev_allK {α : Type} {f : α → Bool} {l : List α} (h : EvN K C te σ H (kept (fun _ => true) (fun x => PyData.bool (f x)) l)) : EvC K C (tCB (rAll K) (tCons te tNil)) σ H (.d (.bool (l.all f))) := by
  have e : kept (fun _ => true) (fun x => PyData.bool (f x)) l = (l.map f).map .bool := by
    rw [kept_all, List.map_map]
    rfl
  rw [e] at h
  have z := ev_allN h
  rw [List.all_map] at z
  exact z
end Pt
namespace Pt
open PySem PySem.Spec PyProof.Rows L2
variable {K : PySem.W.Frag} {C : Addr} {H H' H1 H2 : Hp} {v w x y : V} {vs : List V} {d e : PyData} {ds es : List PyData}
variable {S : List Addr} {G : List (V × PyData)} {H0 : Hp} {σ : L2.St} {Γ : List Ct} {i j k : Nat} {c : Ct} {te ta tb tc tl : TE} {t u : TT}
variable {D : Ends} {tu tw tz : TS}
theorem shaped_list (l : List Int) : SeqAt.shaped (.list (iL l)) = true := by
  show ((PyData.list (iL l)).canLay0 && decide ((PyData.list (iL l)).depth ≤ 64)) = true
  have h1 := depth_iL l
  rw [Bool.and_eq_true]
  refine ⟨?_, decide_eq_true ?_⟩
  · simp only [PyData.canLay0]; exact lay_iL l
  · simp only [PyData.depth]; omega
end Pt
namespace Pt
open PySem PySem.Spec PyProof.Rows L2
variable {K : PySem.W.Frag} {C : Addr} {H H' H1 H2 : Hp} {v w x y : V} {vs : List V} {d e : PyData} {ds es : List PyData}
variable {S : List Addr} {G : List (V × PyData)} {H0 : Hp} {σ : L2.St} {Γ : List Ct} {i j k : Nat} {c : Ct} {te ta tb tc tl : TE} {t u : TT}
variable {D : Ends} {tu tw tz : TS}
theorem cut_to {α : Type} (l : List α) (k : Nat) : cutD l none (some (k : Int)) = l.take k := by
  unfold cutD
  rw [HT.sIx_none, HT.sIx_nat, List.drop_zero, Nat.sub_zero]
  rcases Nat.le_total k l.length with h | h
  · rw [Nat.min_eq_left h]
  · rw [Nat.min_eq_right h, List.take_of_length_le h, List.take_length]
theorem cut_from {α : Type} (l : List α) (k : Nat) : cutD l (some (k : Int)) none = l.drop k := by
  unfold cutD
  rw [HT.sIx_none, HT.sIx_nat]
  rcases Nat.le_total k l.length with h | h
  · rw [Nat.min_eq_left h, List.take_of_length_le (by simp)]
  · rw [Nat.min_eq_right h, List.drop_length, List.drop_of_length_le h, List.take_nil]
theorem en_cast (h : EvN K C te σ H ds) (e : ds = es) : EvN K C te σ H es := e ▸ h
theorem s_asgD (w : Wd K C S G H0 H σ Γ) (h : EvC K C te σ H (.d d)) (k : ∀ σ1 H1, Wd K C S G H0 H1 σ1 (Γ.set i (.d d)) → D.nx σ1 H1) : tAsg te (gName i) D σ H := s_asg w h (fun _ σ1 H1 _ w1 => k σ1 H1 w1)
theorem walkS {a : Addr} {g : TG} {D : Ends} (Pv : Nat → L2.St → Hp → Prop) (h0 : Pv 0 σ H) (hw : ∀ k σ' H', Pv k σ' H' → ∃ xs, SqL K H' a xs ∧ TdAll K H' xs ds)
    (hs : ∀ k d v σ' H', ds[k]? = some d → Td K H' v d → Pv k σ' H' → g v σ' H' fun σ2 H2 => tu { D with nx := Pv (k + 1), ct := Pv (k + 1), bk := D.nx } σ2 H2) (hd : ∀ σ' H', Pv ds.length σ' H' → D.nx σ' H') : Turns (Itl K a) g tu D σ H := turns_nth told_L Pv h0 hw hs hd
theorem q_forZ {g : TG} {p : Addr} (w : Wd K C S G H0 H σ Γ) (h : EvC K C tl σ H (.z p ds)) (Pv : Nat → L2.St → Hp → Prop) (h0 : ∀ H1, Wd K C S G H0 H1 σ Γ → Pv 0 σ H1)
    (hw : ∀ k σ' H', Pv k σ' H' → ∃ xs, SqL K H' p xs ∧ TdAll K H' xs ds)
    (hs : ∀ k d v σ' H', ds[k]? = some d → Td K H' v d → Pv k σ' H' → g v σ' H' fun σ2 H2 => tu { D with nx := Pv (k + 1), ct := Pv (k + 1), bk := tz D } σ2 H2) (hd : ∀ σ' H', Pv ds.length σ' H' → tz D σ' H') : tSeq (tFor (iList K tl) g tu) tz D σ H :=
  s_seq (h H (Same.refl H) _ fun v H1 e a => by
    obtain ⟨rfl, xs, s, t⟩ := a
    exact ⟨p, rfl, ⟨xs, s.sq⟩, walkS (D := { D with nx := tz D }) Pv (h0 H1 (w.mono e)) hw hs hd⟩)
def Src (H : Hp) (p c : Addr) (s k : Int) (cells : List Int) : Prop := H p = some (.lst [.int s, .ref c, .int k]) ∧ H c = some (.lst (cells.map V.int)) ∧ p ≠ c ∧ cells.length ≤ 63
theorem Src.mono {p c : Addr} {s k : Int} {cells : List Int} (h : Src H p c s k cells) (e : Same H H') : Src H' p c s k cells := ⟨e _ _ h.1, e _ _ h.2.1, h.2.2⟩
theorem Src.ct {p c : Addr} {s k : Int} {cells : List Int} (h : Src H p c s k cells) : CtAt K C H (.ref p) (.h p c) := ⟨rfl, h.2.2.1, s, k, cells, h.1, h.2.1, h.2.2.2⟩
theorem src_ix {p c : Addr} {s k : Int} {cells : List Int} {u : V} {n : Nat} (h : Src H p c s k cells) (hi : σ[i]? = some (some (.ref p))) (hn : [V.int s, .ref c, .int k][n]? = some u) {d' : Ct} (hc : ∀ H1, Same H H1 → CtAt K C H1 u d') : EvC K C (tOp (rIx K) (tVar i) (tC (.int (n : Nat)))) σ H d' := fun H1 e1 Q q =>
  ⟨.ref p, hi, .inl ⟨p, _, (n : Nat), u, rfl, rfl, SqL.of (e1 _ _ h.1), atI_nat hn, q _ H1 (Same.refl H1) (hc H1 e1)⟩⟩
theorem src_s {p c : Addr} {s k : Int} {cells : List Int} (h : Src H p c s k cells) (hi : σ[i]? = some (some (.ref p))) : EvC K C (tOp (rIx K) (tVar i) (tC (.int 0))) σ H (.d (.int s)) := src_ix (n := 0) h hi rfl fun _ _ => .int s
theorem src_k {p c : Addr} {s k : Int} {cells : List Int} (h : Src H p c s k cells) (hi : σ[i]? = some (some (.ref p))) : EvC K C (tOp (rIx K) (tVar i) (tC (.int 2))) σ H (.d (.int k)) := src_ix (n := 2) h hi rfl fun _ _ => .int k
theorem src_c {p c : Addr} {s k : Int} {cells : List Int} (h : Src H p c s k cells) (hi : σ[i]? = some (some (.ref p))) : EvC K C (tOp (rIx K) (tVar i) (tC (.int 1))) σ H (.l c (iL cells)) := src_ix (n := 1) h hi rfl fun H1 e1 => ⟨rfl, _, e1 _ _ h.2.1, TdAll.of_iL cells⟩
def spH (K : PySem.W.Frag) (C : Addr) : Sp := fun vs H Q _ => ∃ (p c : Addr) (b : Int), vs = [.ref p, .int b] ∧ CtAt K C H (.ref p) (.h p c) ∧ 1 ≤ b ∧ b ≤ 1000000 ∧
  ∀ (r : Int) H', 0 ≤ r → r < b → Fr [p, c] H H' → CtAt K C H' (.ref p) (.h p c) → Q (.int r) H'
def spM (K : PySem.W.Frag) (C : Addr) : Sp := fun vs H Q _ => ∃ (z : Addr) (cells : List Int) (v1 : V) (k : Int), vs = [v1, .int k] ∧ CtAt K C H v1 (.z z (iL cells)) ∧ cells.length ≤ 63 ∧
  ∀ p c H', H p = none → H c = none → Same H H' → CtAt K C H' (.ref p) (.h p c) → Q (.ref p) H'
theorem ev_at {k : Int} (hi : σ[i]? = some (some (.int k))) : EvC K C (tVar i) σ H (.d (.int k)) := fun H1 _ Q q => ⟨.int k, hi, q _ H1 (Same.refl H1) (.int k)⟩
theorem ev_lstAt {c : Addr} {cells : List Int} (hi : σ[i]? = some (some (.ref c))) (h : H c = some (.lst (cells.map V.int))) : EvC K C (tVar i) σ H (.l c (iL cells)) := fun H1 e Q q => ⟨.ref c, hi, q _ H1 (Same.refl H1) ⟨rfl, _, e _ _ h, TdAll.of_iL cells⟩⟩
theorem Fr.updIn {T : List Addr} {p : Addr} {o : HO} (h : p ∈ T) : Fr T H (L2.upd H p o) := fun a u r n => by
  have z : a ≠ p := fun z => n (by rw [z]; exact h)
  rw [L2.upd_ne z]
  exact r
theorem ne_of_none' {a b : Addr} {o : HO} (h : H a = none) (h' : H b = some o) : a ≠ b := (ne_of_none h' h).symm
end Pt
namespace Pt
open PySem PySem.Spec PyProof.Rows L2
variable {K : PySem.W.Frag} {C : Addr} {H H' H1 H2 : Hp} {v w x y : V} {vs : List V} {d e : PyData} {ds es : List PyData}
variable {S : List Addr} {G : List (V × PyData)} {H0 : Hp} {σ : L2.St} {Γ : List Ct} {i j k : Nat} {c : Ct} {te ta tb tc tl : TE} {t u : TT}
variable {D : Ends} {tu tw tz : TS} {p q : Addr} {b : Int} {E : XK}
theorem dr_next (w : Wd K C S G H0 H σ Γ) (hi : Γ[i]? = some (.h p q)) (hb : EvC K C tb σ H (.d (.int b))) (h1 : 1 ≤ b) (h2 : b ≤ 1000000) {Q : VK} (k : ∀ (r : Int) H', 0 ≤ r → r < b → Wd K C S G H0 H' σ Γ → Q (.int r) H') :
    tCall (spH K C) [] E (tCons (tVar i) (tCons tb tNil)) σ H Q := by
  obtain ⟨v, e, a⟩ := w.get hi
  obtain ⟨rfl, a'⟩ := id a
  refine ⟨.ref p, e, hb H (Same.refl H) _ fun y H2 e2 b2 => ⟨p, q, b, ?_, CtAt.mono e2 a, h1, h2, fun r H' r0 r1 f ct => k r H' r0 r1 ((w.mono e2).drawn hi f ct)⟩⟩
  rw [Td.int_of b2]
  rfl
theorem q_draw (w : Wd K C S G H0 H σ Γ) (hi : Γ[i]? = some (.h p q)) (hb : EvC K C tb σ H (.d (.int b))) (h1 : 1 ≤ b) (h2 : b ≤ 1000000) (k : ∀ (r : Int) σ1 H1, 0 ≤ r → r < b → Wd K C S G H0 H1 σ1 (Γ.set j (.d (.int r))) → tz D σ1 H1) :
    tSeq (tAsg (tCall (spH K C) [] E (tCons (tVar i) (tCons tb tNil))) (gName j)) tz D σ H :=
  dr_next w hi hb h1 h2 fun r H' r0 r1 w1 => k r _ H' r0 r1 (w1.set j (.int r))
def DrT (K : PySem.W.Frag) (C : Addr) (S : List Addr) (G : List (V × PyData)) (H0 : Hp) (σ : L2.St) (Γ : List Ct) (t : TT) : Prop := ∀ H, Wd K C S G H0 H σ Γ → ∀ Q : Bool → Hp → Prop, (∀ b H', Wd K C S G H0 H' σ Γ → Q b H') → t σ H Q
theorem dt_of {b : Bool} (h : ∀ H, Wd K C S G H0 H σ Γ → EvT t σ H b) : DrT K C S G H0 σ Γ t := fun H w Q q => h H w H (Same.refl H) _ fun H2 e2 => q b H2 (w.mono e2)
theorem dt_or (h1 : DrT K C S G H0 σ Γ t) (h2 : DrT K C S G H0 σ Γ u) : DrT K C S G H0 σ Γ (tOr t u) := fun H w Q q => h1 H w _ fun b H2 w2 => by
  cases b with
  | true => exact q true H2 w2
  | false => exact h2 H2 w2 Q q
theorem dt_and (h1 : DrT K C S G H0 σ Γ t) (h2 : DrT K C S G H0 σ Γ u) : DrT K C S G H0 σ Γ (tAnd t u) := fun H w Q q => h1 H w _ fun b H2 w2 => by
  cases b with
  | true => exact h2 H2 w2 Q q
  | false => exact q false H2 w2
theorem dt_eqN {m : Int} (hi : Γ[i]? = some (.h p q)) (h1 : 1 ≤ b) (h2 : b ≤ 1000000) : DrT K C S G H0 σ Γ (tTest (tOp (rEqD K) (tCall (spH K C) [] E (tCons (tVar i) (tCons (tC (.int b)) tNil))) (tC (.int m)))) := fun H w Q k =>
  dr_next w hi ev_int h1 h2 fun r H' r0 r1 w1 => ⟨.int r, .int m, .int r, .int m, shaped_int r, shaped_int m, _, rfl, k _ H' w1⟩
theorem s_ifD (w : Wd K C S G H0 H σ Γ) (h : DrT K C S G H0 σ Γ t) (h1 : ∀ H1, Wd K C S G H0 H1 σ Γ → tu D σ H1) (h2 : ∀ H1, Wd K C S G H0 H1 σ Γ → tw D σ H1) : tIfS t tu tw D σ H := h H w _ fun b H1 w1 => by
  cases b with
  | true => exact h1 H1 w1
  | false => exact h2 H1 w1
def spDr (K : PySem.W.Frag) (C : Addr) (A : List Ag → Prop) (R : List Ag → PyData → Prop) : Sp := fun vs H Q _ => ∃ (p c : Addr) (ws : List V) (as : List Ag), vs = .ref p :: ws ∧ CtAt K C H (.ref p) (.h p c) ∧ Args K C H ws as ∧ A as ∧
  ∀ v d H', R as d → Fr [p, c] H H' → CtAt K C H' (.ref p) (.h p c) → Td K H' v d → Q v H'
theorem dr_call {A : List Ag → Prop} {R : List Ag → PyData → Prop} {as : List Ag} {ts : TA} (w : Wd K C S G H0 H σ Γ) (hi : Γ[i]? = some (.h p q)) (hs : EvA K C ts σ H as) (hA : A as) {Q : VK} (k : ∀ v d H', R as d → Wd K C S G H0 H' σ Γ → Td K H' v d → Q v H') :
    tCall (spDr K C A R) [] E (tCons (tVar i) ts) σ H Q := by
  obtain ⟨v, e, a⟩ := w.get hi
  obtain ⟨rfl, a'⟩ := id a
  exact ⟨.ref p, e, hs H (Same.refl H) _ fun ws H2 e2 b2 => ⟨p, q, ws, as, by rw [List.append_nil], CtAt.mono e2 a, b2, hA, fun v d H' r f ct td => k v d H' r ((w.mono e2).drawn hi f ct) td⟩⟩
theorem q_drawA {A : List Ag → Prop} {R : List Ag → PyData → Prop} {as : List Ag} {ts : TA} (w : Wd K C S G H0 H σ Γ) (hi : Γ[i]? = some (.h p q)) (hs : EvA K C ts σ H as) (hA : A as) (k : ∀ d σ1 H1, R as d → Wd K C S G H0 H1 σ1 (Γ.set j (.d d)) → tz D σ1 H1) :
    tSeq (tAsg (tCall (spDr K C A R) [] E (tCons (tVar i) ts)) (gName j)) tz D σ H :=
  dr_call w hi hs hA fun v d H' r w1 td => k d _ H' r (w1.set j td)
theorem s_retDr {R : List Ag → PyData → Prop} {as : List Ag} {Q : VK} {nx : L2.St → Hp → Prop} {bk ct} (w : Wd K C [p, q] G H0 H σ Γ) (hi : Γ[i]? = some (.h p q)) (k : ∀ v d H', R as d → Fr [p, q] H0 H' → CtAt K C H' (.ref p) (.h p q) → Td K H' v d → Q v H') (h : EvC K C te σ H (.d d)) (hR : R as d) : tRet te { nx := nx, rt := Q, bk := bk, ct := ct } σ H :=
  s_ret w h fun v H1 w1 a => by
    obtain ⟨v', _, a'⟩ := w1.get hi
    obtain ⟨rfl, _⟩ := id a'
    exact k v d H1 hR w1.fr a' a
theorem q_parDr {m : Nat} (w : Wd K C S G H0 H σ Γ) (hi : Γ[m]? = some (.h p q)) (h1 : 1 ≤ b) (h2 : b ≤ 1000000) (k : ∀ (r : Int) l σ1 H1, 0 ≤ r → r < b → Wd K C S G H0 H1 σ1 ((Γ.set i (.d (.int r))).set j (.l l [])) → tz D σ1 H1) :
    tSeq (tPar i j (tCons (tCall (spH K C) [] E (tCons (tVar m) (tCons (tC (.int b)) tNil))) (tCons (tLst tNil) tNil))) tz D σ H :=
  dr_next w hi ev_int h1 h2 fun r H1 r0 r1 w1 => (en_lst ed_nil : EvN K C (tLst tNil) σ H1 []) H1 (Same.refl H1) _ fun l H2 hl e2 a2 => ⟨.int r, .ref l, rfl, k r l _ H2 r0 r1 ((w1.set i (v := .int r) (c := .d (.int r)) (Td.int r)).setN j e2 hl a2)⟩
end Pt
namespace Pt
open PySem PySem.Spec PyProof.Rows L2
variable {K : PySem.W.Frag} {C : Addr} {H H' H1 H2 : Hp} {v w x y : V} {vs : List V} {d e : PyData} {ds es : List PyData}
def rowK (l : List Int) : List Key := l.map .inl
theorem rowK_inj {l m : List Int} (h : rowK l = rowK m) : l = m := by
  induction l generalizing m with
  | nil => cases m with
    | nil => rfl
    | cons => simp [rowK] at h
  | cons a l ih => cases m with
    | nil => simp [rowK] at h
    | cons b m =>
      simp only [rowK, List.map_cons, List.cons.injEq] at h
      obtain ⟨h1, h2⟩ := h
      rw [Sum.inl.inj h1, ih h2]
abbrev En := List Int × Int × Addr
abbrev tk (P : Program) (w : World) := tupleKind (mixKind P w)
def Ents (es : List En) (xs : List (List Key × Addr × Value)) : Prop := Paired (fun (e : En) (q : List Key × Addr × Value) => q.1 = rowK e.1 ∧ q.2.1 = e.2.2 ∧ RelV (.int e.2.1) q.2.2) es xs
def lookE (es : List En) (k : List Int) : Option Int := (es.find? fun e => decide (e.1 = k)).map (·.2.1)
theorem Ents.val {es : List En} {xs : List (List Key × Addr × Value)} (r : Ents es xs) (k : List Int) : RelO ((lookE es k).map V.int) ((atKey xs (rowK k)).map (·.2)) := by
  unfold Ents at r
  induction r with
  | nil => exact True.intro
  | @cons p q ps qs h t ih =>
    obtain ⟨h1, _, h2⟩ := h
    by_cases e : p.1 = k
    · have e' : q.1 = rowK k := by rw [h1, e]
      have a : lookE (p :: ps) k = some p.2.1 := by simp [lookE, List.find?_cons, e]
      have b : atKey (q :: qs) (rowK k) = some q.2 := by simp [atKey, List.find?_cons, e']
      rw [a, b]; exact h2
    · have e' : ¬ q.1 = rowK k := fun z => e (rowK_inj (h1.symm.trans z))
      have a : lookE (p :: ps) k = lookE ps k := by simp [lookE, List.find?_cons, e]
      have b : atKey (q :: qs) (rowK k) = atKey qs (rowK k) := by simp [atKey, List.find?_cons, e']
      rw [a, b]; exact ih
theorem Ents.len {es : List En} {xs : List (List Key × Addr × Value)} (r : Ents es xs) : es.length = xs.length := Paired.length r
section
variable {X : Cx} {pins : List (Addr × Obj)} {σ : L2.St} {s : Shared} {a b : Addr} {A : Around} {E : Value → Shared → Prop}
end
section
variable {X : Cx} {o i e value : Expr} {pos pos' : Pos} {td ty tv : TE}
end
end Pt
namespace Pt
open PySem PySem.Spec PyProof.Rows L2
variable {K : PySem.W.Frag} {C : Addr} {H H' H1 H2 : Hp} {v w x y : V} {vs : List V} {d e : PyData} {ds es : List PyData}
variable {S : List Addr} {G : List (V × PyData)} {H0 : Hp} {σ : L2.St} {Γ : List Ct} {i j k : Nat} {c : Ct} {te ta tb tc tl ty td tv : TE} {t u : TT}
variable {D : Ends} {tu tw tz : TS} {p q : Addr} {P : Program} {W : World}
theorem row_of {b : V} {r : List Int} (h : Td K H b (row r)) : ∃ a, b = .ref a ∧ SqF H a (r.map V.int) := by
  obtain ⟨a, xs, rfl, s, t⟩ := Td.tup_of h
  rw [t.iL_of] at s
  exact ⟨a, rfl, s⟩
theorem depth_rows : ∀ L : List (List Int), PyData.depthAll (L.map row) ≤ 3
  | [] => by simp [PyData.depthAll]
  | l :: L => by
    have h1 := depth_rows L
    have h2 := depth_iL l
    simp only [List.map_cons, PyData.depthAll, PyData.depth, row] at h1 ⊢
    omega
end Pt
namespace Pt
open PySem PySem.Spec PyProof.Rows L2
section
variable {prog : Program} {w : World} {A : Around} {E : Value → Shared → Prop} {s : Shared}
theorem fm_congr {α β : Type} {f g : α → Option β} : ∀ {l : List α}, (∀ x ∈ l, f x = g x) → l.filterMap f = l.filterMap g
  | [], _ => rfl
  | x :: l, h => by
    rw [List.filterMap_cons, List.filterMap_cons, h x List.mem_cons_self, fm_congr fun y m => h y (List.mem_cons_of_mem _ m)]
end
section
variable {X : Cx} {pos : Pos}
end
section
variable {K : PySem.W.Frag} {C : Addr} {H : Hp} {σ : L2.St} {te : TE} {ds : List PyData}
end
end Pt
namespace Pt
open PySem PySem.Spec PyProof.Rows L2
variable {K : PySem.W.Frag} {C : Addr} {H H' H1 H2 : Hp} {v w x y : V} {vs : List V} {d e : PyData} {ds es : List PyData}
variable {S : List Addr} {G : List (V × PyData)} {H0 : Hp} {σ : L2.St} {Γ : List Ct} {i j k : Nat} {c : Ct} {te ta tb tc tl ty td tv : TE} {t u : TT}
variable {D : Ends} {tu tw tz : TS} {p q : Addr} {b : Int} {E : XK}
theorem q_mix {z : Addr} {cells : List Int} (w : Wd K C S G H0 H σ Γ) (hi : Γ[i]? = some (.z z (iL cells))) (hl : cells.length ≤ 63) (k : ∀ p c σ1 H1, Wd K C S G H0 H1 σ1 (Γ.set j (.h p c)) → tz D σ1 H1) :
    tSeq (tAsg (tCall (spM K C) [] E (tCons (tVar i) (tCons (tC (.int b)) tNil))) (gName j)) tz D σ H := by
  obtain ⟨v, e, a⟩ := w.get hi
  refine ⟨v, e, z, cells, v, b, rfl, a, hl, fun p c H1 hp hc e1 ct => k p c _ H1 ((w.mono e1).setC j ct (fun _ x m => .inr ?_) fun j' c' x _ h m m' => ?_)⟩
  · have m : x = p ∨ x = c := by simpa [Ct.adr] using m
    rcases m with rfl | rfl
    · exact w.fresh0 hp
    · exact w.fresh0 hc
  · have m : x = p ∨ x = c := by simpa [Ct.adr] using m
    rcases m with rfl | rfl
    · exact w.fresh hp h m'
    · exact w.fresh hc h m'
theorem q_drawAdd {a : Int} (w : Wd K C S G H0 H σ Γ) (hi : Γ[i]? = some (.h p q)) (h1 : 1 ≤ b) (h2 : b ≤ 1000000) (k : ∀ (r : Int) σ1 H1, 0 ≤ r → r < b → Wd K C S G H0 H1 σ1 (Γ.set j (.d (.int (a + r)))) → tz D σ1 H1) :
    tSeq (tAsg (tOp (rAddU K) (tC (.int a)) (tCall (spH K C) [] E (tCons (tVar i) (tCons (tC (.int b)) tNil)))) (gName j)) tz D σ H :=
  dr_next w hi ev_int h1 h2 fun r H1 r0 r1 w1 => .inl ⟨a, r, rfl, rfl, k r _ H1 r0 r1 (w1.set j (v := .int (a + r)) (c := .d (.int (a + r))) (Td.int _))⟩
theorem ev_neN (ha : EvN K C ta σ H ds) (hb : EvN K C tb σ H es) (h1 : SeqAt.shaped (.list ds) = true) (h2 : SeqAt.shaped (.list es) = true) : EvC K C (tOp (rNeD K) ta tb) σ H (.d (.bool (!PyData.eqv (.list ds) (.list es)))) := fun H1 e1 Q k =>
  ha H1 e1 _ fun a H2 _ e2 a2 => hb H2 (e1.trans e2) _ fun b H3 _ e3 a3 => by
    obtain ⟨_, xs, s, t⟩ := CtAt.mono e3 a2
    obtain ⟨_, ys, s', t'⟩ := a3
    exact ⟨_, _, .lst (SqL.of s) (TdAll.dp _ _ t), .lst (SqL.of s') (TdAll.dp _ _ t'), h1, h2, k _ H3 (e2.trans e3) (.bl _)⟩
end Pt
namespace Pt
open PySem PySem.Spec PyProof.Rows L2
variable {K : PySem.W.Frag} {C : Addr} {H H' H1 H2 : Hp} {v w x y : V} {vs : List V} {d e : PyData} {ds es : List PyData}
variable {S : List Addr} {G : List (V × PyData)} {H0 : Hp} {σ : L2.St} {Γ : List Ct} {i j k : Nat} {c : Ct} {te ta tb tc tl ty td tv : TE} {t u : TT}
variable {D : Ends} {tu tw tz : TS} {p q : Addr} {b : Int} {E : XK}
theorem s_retLQ {Q : VK} {nx : L2.St → Hp → Prop} {bk ct} (w : Wd K C [] G H0 H σ Γ) (q : ∀ p H', H0 p = none → Same H0 H' → CtAt K C H' (.ref p) (.l p ds) → Q (.ref p) H') (hi : Γ[i]? = some (.l p ds)) : tRet (tVar i) { nx := nx, rt := Q, bk := bk, ct := ct } σ H := by
  obtain ⟨v, e, a⟩ := w.get hi
  obtain ⟨rfl, _⟩ := id a
  exact ⟨.ref p, e, q p H ((w.wr i _ hi rfl p (by simp [Ct.adr])).elim (fun z => by simp at z) id) w.fr0 a⟩
end Pt
namespace Pt
open PySem PySem.Spec PyProof.Rows L2
variable {K : PySem.W.Frag} {C : Addr} {H H' H1 H2 : Hp} {v w x y : V} {vs : List V} {d e : PyData} {ds es : List PyData}
abbrev sortedD (ds : List PyData) : List PyData := ds.mergeSort (PySem.W.dataLe false id)
theorem each_of : ∀ {xs : List V} {its : List Value} {ds : List PyData}, Vals xs its → TdAll K H xs ds → PySem.W.EachIs (fun v d => ∃ x, RelV x v ∧ Td K H x d) its ds
  | _, _, _, .nil, .nil => .nil
  | _, _, _, .cons r rs, .cons t ts => .cons ⟨_, r, t⟩ (each_of rs ts)
theorem each_back : ∀ {out : List Value} {ds : List PyData}, PySem.W.EachIs (fun v d => ∃ x, RelV x v ∧ Td K H x d) out ds → ∃ ys, Vals ys out ∧ TdAll K H ys ds
  | _, _, .nil => ⟨[], .nil, .nil⟩
  | _, _, .cons ⟨x, r, t⟩ e => let ⟨ys, rs, ts⟩ := each_back e; ⟨x :: ys, .cons r rs, .cons t ts⟩
theorem vals_get : ∀ {xs : List V} {its : List Value} {i : Nat} {v : Value}, Vals xs its → its[i]? = some v → ∃ x, xs[i]? = some x ∧ RelV x v
  | _, _, _, _, .nil, e => by simp at e
  | _, _, 0, _, .cons r _, e => by simp at e; subst e; exact ⟨_, rfl, r⟩
  | _, _, i + 1, _, .cons _ t, e => by
    obtain ⟨x, h1, h2⟩ := vals_get (i := i) t (by simpa using e)
    exact ⟨x, by simpa using h1, h2⟩
section
open PySem.W PyProof.Rows
def Can (ds : List PyData) : Prop := ∀ (P : Program) (w : World) (A : Around) (s : Shared) (vs : List Value), EachIs (fun v d => ∃ as, Reads s.heap v d as) vs ds → (∀ d ∈ ds, A.units + d.depth < cLine) → SortsAt P w A s (dataKind s.heap ds) vs
theorem keys_told {h : Heap} {vs : List Value} (e : EachIs (fun v d => ∃ as, Reads h v d as) vs ds) (al : AllAlike ds) (v : Value) (m : v ∈ vs) : ∃ k, (dataKind h ds).keyOf v = some k :=
  let ⟨d, md, as, r⟩ := e.left v m
  ⟨keyToks d, dataKind_some al md r⟩
end
section
variable {X : Cx} {pins : List (Addr × Obj)} {σ : L2.St} {s : Shared}
theorem sorted_can {Q : VK} {a : Addr} {xs : List V} (hu : X.A.units + 12 < cLine) (I : Inv X pins σ H s) (lst : SqL X.K H a xs) (td : TdAll X.K H xs ds) (al : PySem.W.AllAlike ds) (can : Can ds) (deep : ∀ d ∈ ds, d.depth ≤ 8) (q : ∀ (ys : List V) (p : Addr), TdAll X.K H ys (sortedD ds) → H p = none → Q (.ref p) (L2.upd H p (.lst ys))) :
    wpAny (model X.prog X.w) X.A (call (.builtin "sorted") [.ref a]) (EP X pins σ Q) X.xe s := by
  obtain ⟨its, rv, here, few⟩ := I.list lst
  rw [← List.map_id ds] at al can
  have same : its.length = xs.length := rv.length.symm
  have reads : PySem.W.EachIs (fun v d => ∃ as, Reads (PySem.W.sortingHeap (PySem.W.copyHeap s.heap its) (s.heap.objs.size + 1) its) v (id d) as) its ds := (each_of rv td).mono fun v d ⟨x, rx, t⟩ =>
    let ⟨as, r⟩ := Dp.reads I d x v (Td.dp _ _ t) rx
    ⟨as, PyProof.Rows.Reads.keeps (fun _ _ => PySem.W.sorting_copy_old) r⟩
  obtain ⟨ys, ry, ty⟩ := each_back (PySem.W.sortVals_data false (each_of rv td) reads al)
  obtain ⟨ep, at1⟩ := PyProof.Rows.sortedAll_at s.heap its (PySem.W.sortVals (PySem.W.dataKind _ (ds.map id)) false its its).toArray
  refine PySem.W.sorted_vals here.isList (can X.prog X.w X.A.in1.in1 { s with heap := _ } its (PySem.W.each_map (R := fun v d => ∃ as, Reads _ v d as) id reads) (PySem.W.bound_map fun d m => ?_)) (by omega) ⟨.ref _, L2.upd H (s.heap.objs.size + 1) (.lst ys), I.laid (t' := s.toks) (fun _ _ => PyProof.Rows.sortedAll_old) (Nat.le_succ _) ⟨?_, _, ep, ry, at1⟩, rfl, q ys _ ty (I.hok.fresh (Nat.le_succ _))⟩
  · have := deep d m
    show X.A.units + 1 + 1 + PyData.depth d < cLine
    omega
  · rw [ry.length, PySem.W.sortVals_length false rfl, same]
    exact few
def rMinD (K : PySem.W.Frag) : List V → Hp → VK → Prop := fun vs H Q => ∃ (a : Addr) (xs : List V) (d : PyData) (ds : List PyData), vs = [.ref a] ∧ SqL K H a xs ∧ TdAll K H xs (d :: ds) ∧ PySem.W.AlikeAll (d :: ds) ∧ PyData.depthAll (d :: ds) ≤ 8 ∧
  ∀ y, Td K H y (PySem.W.minD d ds) → Q y H
theorem call_minD (hc : X.calm = true) (hu : X.A.units + 12 < cLine) : CallR X (.builtin "min") (rMinD X.K) := by
  intro pins s σ H vs us Q I r h
  obtain ⟨a, xs, d, ds, rfl, hs, td, hal, hd, q⟩ := h
  obtain ⟨its, rv, hl, hz⟩ := I.list hs
  rw [Vals.ref1 r]
  obtain ⟨as, hr⟩ := Dp.readsAll I (d :: ds) xs its (TdAll.dp _ _ td) rv
  refine PySem.W.min_list_data (vs := its.toArray) (I.ok.hd hc) hl.isList hr hal (by omega) fun i v h' tk bs hv hrd hk => ?_
  obtain ⟨x, hx, rx⟩ := vals_get rv (show its[i]? = some v by simpa using hv)
  obtain ⟨di, _, t⟩ := td.get' hx
  obtain ⟨as', r1⟩ := Dp.reads I di x v (Td.dp _ _ t) rx
  obtain ⟨e, _⟩ := PyProof.Rows.reads_det (fun b o eb _ => hk b o eb) r1 hrd
  exact ⟨x, H, I.kept hk, rx, q x (by rw [e]; exact t)⟩
theorem call_minK (K : PySem.W.Frag) (hc : X.calm = true) (hu : X.A.units + 12 < cLine) (h : X.K = K := by rfl) : CallR X (.builtin "min") (rMinD K) := h ▸ call_minD hc hu
end
section
variable {S : List Addr} {G : List (V × PyData)} {H0 : Hp} {σ : L2.St} {Γ : List Ct} {i j k : Nat} {c : Ct} {te ta tb tc tl ty td tv : TE} {t u : TT}
variable {D : Ends} {tu tw tz : TS} {p q : Addr} {b : Int} {E : XK}
theorem _root_.L2.Room.units12 {k : Nat} {A : Around} (r : Room k A) : A.units + 12 < cLine := by have := r.un; omega
theorem q_unpD {d1 d2 : PyData} (w : Wd K C S G H0 H σ Γ) (h : EvC K C te σ H (.d (.tuple [d1, d2]))) (k : ∀ σ1 H1, Wd K C S G H0 H1 σ1 ((Γ.set i (.d d1)).set j (.d d2)) → tz D σ1 H1) : tSeq (tAsg te (gTup K 2 (gCons (gName i) (gCons (gName j) gNil)))) tz D σ H :=
  h H (Same.refl H) _ fun v H1 e1 a1 => by
    obtain ⟨a, xs, rfl, s, t⟩ := Td.tup_of a1
    cases t with
    | cons t1 t =>
      cases t with
      | cons t2 t =>
        cases t
        exact ⟨a, _, rfl, s.sq, rfl, _, _, rfl, _, _, rfl, rfl, k _ H1 (((w.mono e1).set i (c := .d d1) t1).set j (c := .d d2) t2)⟩
theorem ev_minN {d : PyData} {ds : List PyData} (h : EvN K C te σ H (d :: ds)) (h1 : PySem.W.AlikeAll (d :: ds)) (h2 : PyData.depthAll (d :: ds) ≤ 8) : EvC K C (tCB (rMinD K) (tCons te tNil)) σ H (.d (PySem.W.minD d ds)) := ev_cb (ea_consN h ea_nil) fun H1 _ vs a Q q => by
  obtain ⟨v, rfl, p, xs, rfl, s, t⟩ := a.one
  exact ⟨p, xs, d, ds, rfl, SqL.of s, t, h1, h2, fun y ty => q y H1 (Same.refl H1) ty⟩
end
end Pt
namespace Pt
open PySem PySem.Spec PyProof.Rows L2
variable {K : PySem.W.Frag} {C : Addr} {H H' H1 H2 : Hp} {v w x y : V} {vs : List V} {d e : PyData} {ds es : List PyData}
variable {S : List Addr} {G : List (V × PyData)} {H0 : Hp} {σ : L2.St} {Γ : List Ct} {i j k : Nat} {c : Ct} {te ta tb tc tl ty td tv : TE} {t u : TT}
theorem wipe2 (σ : L2.St) {i j : Nat} (h : i ≠ j) (x y : Option V) : wipe (((wipe σ [i, j]).set i x).set j y) [i, j] = wipe σ [i, j] := by
  refine List.ext_getElem? fun k => ?_
  simp only [wipe, List.getElem?_set, List.length_set]
  by_cases h1 : i = k
  · subst h1
    simp
  · by_cases h2 : j = k
    · subst h2
      simp [h1]
    · simp [h1, h2]
theorem Wd.wiped2 (w : Wd K C S G H0 H σ Γ) (i j : Nat) : Wd K C S G H0 H (wipe σ [i, j]) ((Γ.set j .u).set i .u) := by
  have w1 := (w.wiped j).wiped i
  exact w1
theorem Cw.mono {Dl : Addr} (c : Cw K H Dl es H1) (e : Same H1 H2) : Cw K H Dl es H2 := by
  obtain ⟨c1, c2, acc, c3, c4⟩ := c
  exact ⟨c1, c2.trans e, acc, e _ _ c3, TdAll.mono (.of e) _ _ c4⟩
end Pt
namespace Pt
open PySem PySem.Spec PyProof.Rows L2
variable {K : PySem.W.Frag} {C : Addr} {H H' H1 H2 : Hp} {v w x y : V} {vs : List V} {d e : PyData} {ds es : List PyData}
variable {S : List Addr} {G : List (V × PyData)} {H0 : Hp} {σ : L2.St} {Γ : List Ct} {i j k : Nat} {c : Ct} {te ta tb tc tl ty td tv tr : TE} {t u : TT}
variable {D : Ends} {tu tw tz : TS} {p q f : Addr} {P : Program} {W : World}
def owns (Γ : List Ct) : List Addr := (Γ.map fun c => if c.own = true then c.adr else []).flatten
theorem mem_owns {a : Addr} : a ∈ owns Γ ↔ ∃ (i : Nat) (c : Ct), Γ[i]? = some c ∧ c.own = true ∧ a ∈ c.adr := by
  unfold owns
  rw [List.mem_flatten]
  constructor
  · rintro ⟨l, hl, ha⟩
    obtain ⟨c, hc, rfl⟩ := List.mem_map.mp hl
    obtain ⟨i, hi⟩ := List.mem_iff_getElem?.mp hc
    cases o : c.own with
    | true => rw [o, if_pos rfl] at ha; exact ⟨i, c, hi, o, ha⟩
    | false => rw [o, if_neg Bool.false_ne_true] at ha; cases ha
  · rintro ⟨i, c, hi, o, ha⟩
    exact ⟨_, List.mem_map.mpr ⟨c, List.mem_of_getElem? hi, rfl⟩, by rw [o, if_pos rfl]; exact ha⟩
theorem Wd.re (w : Wd K C S G H0 H σ Γ) : Wd K C (S ++ owns Γ) G H H σ Γ :=
  ⟨fun _ _ h _ => h, fun a m => by
    rcases List.mem_append.mp m with m | m
    · exact w.sl a m
    · obtain ⟨i, c, hi, o, ha⟩ := mem_owns.mp m
      obtain ⟨v, _, hv⟩ := w.get hi (fun z => by rw [z] at o; cases o)
      exact hv.there ha, w.len, w.at_, fun i c hi o a ha => .inl (List.mem_append.mpr (.inr (mem_owns.mpr ⟨i, c, hi, o, ha⟩))), w.dj, w.gh⟩
theorem Wd.un {Γ' : List Ct} {σ' : L2.St} {G' : List (V × PyData)} (w : Wd K C S G H0 H σ Γ) (w' : Wd K C (S ++ owns Γ) G' H H' σ' Γ') : Wd K C S G' H0 H' σ' Γ' := by
  have old : ∀ {a : Addr}, a ∈ owns Γ → a ∈ S ∨ H0 a = none := fun {a} m => by
    obtain ⟨i, c, hi, o, ha⟩ := mem_owns.mp m
    exact w.wr i c hi o a ha
  refine ⟨fun a o h n => w'.fr a o (w.fr a o h n) fun m => ?_, fun a m => w'.sl a (List.mem_append.mpr (.inl m)), w'.len, w'.at_, fun i c hi o a ha => ?_, w'.dj, w'.gh⟩
  · rcases List.mem_append.mp m with m | m
    · exact n m
    · rcases old m with z | z
      · exact n z
      · rw [z] at h; cases h
  · rcases w'.wr i c hi o a ha with m | m
    · rcases List.mem_append.mp m with m | m
      · exact .inl m
      · exact old m
    · exact .inr (w.fresh0 m)
theorem Wd.notin (w : Wd K C S G H0 H σ Γ) {p : Addr} (hp : H p = none) : p ∉ S ++ owns Γ := fun m => by
  obtain ⟨u, h, _⟩ := w.re.sl p m
  rw [hp] at h; cases h
theorem s_forN {α : Type} {l : List α} {mk : α → PyData} {g : TG} (w : Wd K C S G H0 H σ Γ) (h : EvN K C tl σ H (l.map mk)) (I : Nat → List Ct → Prop) (h0 : I 0 Γ)
    (hs : ∀ (S1 : List Addr) (H1 : Hp), (∀ σ2 H2 Γ2, Wd K C S1 G H1 H2 σ2 Γ2 → Wd K C S G H0 H2 σ2 Γ2) → ∀ (k : Nat) (hk : k < l.length) (v : V) σ' H' Γ', I k Γ' → Wd K C S1 G H1 H' σ' Γ' → Td K H' v (mk l[k]) →
      g v σ' H' fun σ2 H2 => tu { D with nx := fun σ H => ∃ Γ2, I (k + 1) Γ2 ∧ Wd K C S1 G H1 H σ Γ2, ct := fun σ H => ∃ Γ2, I (k + 1) Γ2 ∧ Wd K C S1 G H1 H σ Γ2, bk := D.nx } σ2 H2)
    (hd : ∀ σ' H' Γ', I l.length Γ' → Wd K C S G H0 H' σ' Γ' → D.nx σ' H') : tFor (iList K tl) g tu D σ H :=
  h H (Same.refl H) _ fun p H1 hp e a => by
    obtain ⟨_, xs, s, td⟩ := a
    have w1 := w.mono e
    have hp1 : H1 p ≠ none := fun z => by rw [s] at z; cases z
    -- the list is nobody's
    have np : p ∉ S ++ owns Γ := w.notin hp
    have w2 : Wd K C (S ++ owns Γ) G H1 H1 σ Γ := w1.re
    have un : ∀ σ2 H2 Γ2, Wd K C (S ++ owns Γ) G H1 H2 σ2 Γ2 → Wd K C S G H0 H2 σ2 Γ2 := fun σ2 H2 Γ2 w' => w1.un w'
    refine ⟨p, rfl, ⟨xs, SqL.of s⟩, walkL (ds := l.map mk) (fun k σ' H' => ∃ Γ', I k Γ' ∧ Wd K C (S ++ owns Γ) G H1 H' σ' Γ') ⟨Γ, h0, w2⟩ (fun k σ' H' ⟨Γ', _, w'⟩ => ⟨xs, w'.fr p _ s np, TdAll.mono (.fr w2.sl w'.fr) _ _ td⟩) (fun k d v σ' H' hd t ⟨Γ', hi, w'⟩ => ?_) (fun σ' H' ⟨Γ', hi, w'⟩ => ?_)⟩
    · have hk : k < l.length := by
        have := (List.getElem?_eq_some_iff.mp hd).1
        rw [List.length_map] at this
        exact this
      have ed : d = mk l[k] := by
        rw [List.getElem?_map, List.getElem?_eq_getElem hk] at hd
        exact (Option.some.inj hd).symm
      subst ed
      exact hs _ _ un k hk v σ' H' Γ' hi w' t
    · rw [List.length_map] at hi
      exact hd σ' H' Γ' hi (un _ _ _ w')
theorem q_forN {α : Type} {l : List α} {mk : α → PyData} {g : TG} (w : Wd K C S G H0 H σ Γ) (h : EvN K C tl σ H (l.map mk)) (I : Nat → List Ct → Prop) (h0 : I 0 Γ)
    (hs : ∀ (S1 : List Addr) (H1 : Hp), (∀ σ2 H2 Γ2, Wd K C S1 G H1 H2 σ2 Γ2 → Wd K C S G H0 H2 σ2 Γ2) → ∀ (k : Nat) (hk : k < l.length) (v : V) σ' H' Γ', I k Γ' → Wd K C S1 G H1 H' σ' Γ' → Td K H' v (mk l[k]) →
      g v σ' H' fun σ2 H2 => tu { D with nx := fun σ H => ∃ Γ2, I (k + 1) Γ2 ∧ Wd K C S1 G H1 H σ Γ2, ct := fun σ H => ∃ Γ2, I (k + 1) Γ2 ∧ Wd K C S1 G H1 H σ Γ2, bk := tz D } σ2 H2)
    (hd : ∀ σ' H' Γ', I l.length Γ' → Wd K C S G H0 H' σ' Γ' → tz D σ' H') : tSeq (tFor (iList K tl) g tu) tz D σ H :=
  s_forN (D := { D with nx := tz D }) w h I h0 hs hd
theorem g_one {d1 : PyData} {Q : L2.St → Hp → Prop} (w : Wd K C S G H0 H σ Γ) (t : Td K H v d1) (k : ∀ σ1, Wd K C S G H0 H σ1 (Γ.set i (.d d1)) → Q σ1 H) : gName i v σ H Q := k _ (w.set i (c := .d d1) t)
end Pt
namespace Pt
open PySem PySem.Spec PyProof.Rows L2
variable {K : PySem.W.Frag} {C : Addr} {H H' H1 H2 : Hp} {v w x y : V} {vs : List V} {d e : PyData} {ds es : List PyData}
section
variable {X : Cx}
end
section
variable {S : List Addr} {G : List (V × PyData)} {H0 : Hp} {σ : L2.St} {Γ : List Ct} {i j k : Nat} {c : Ct} {te ta tb tc tl ty td tv : TE} {t u : TT}
variable {D : Ends} {tu tw tz : TS} {p q f : Addr} {b : Int} {E : XK} {P : Program} {W : World}
theorem dataLt_row (a b : List Int) : PySem.W.dataLt (row a) (row b) = decide (a < b) := by
  rw [show row a = .tuple (iL a) from rfl, show row b = .tuple (iL b) from rfl, PySem.W.dataLt_tuple]
  exact PySem.W.dataLt_ints a b
def leR (a b : List Int) : Bool := decide (¬ b < a)
theorem sortedD_rows (L : List (List Int)) : sortedD (L.map row) = (L.mergeSort leR).map row := by
  unfold sortedD
  refine (List.map_mergeSort fun a _ b _ => ?_).symm
  have h : PySem.W.dataLe false id (row a) (row b) = !PySem.W.dataLt (row b) (row a) := rfl
  rw [h, dataLt_row]
  unfold leR
  by_cases z : b < a <;> simp [z]
theorem alike_iL : ∀ a b : List Int, PySem.W.alikeAll (iL a) (iL b) = true
  | [], _ => by simp [iL, PySem.W.alikeAll]
  | _ :: _, [] => by simp [iL, PySem.W.alikeAll]
  | x :: a, y :: b => by
    have ih := alike_iL a b
    simp only [iL] at ih
    simp [iL, PySem.W.alikeAll, PySem.W.alike, ih]
theorem rows_alike (L : List (List Int)) : PySem.W.AllAlike (L.map row) := fun x hx y hy => by
  obtain ⟨p, _, rfl⟩ := List.mem_map.mp hx
  obtain ⟨q, _, rfl⟩ := List.mem_map.mp hy
  show PySem.W.alikeAll (iL p) (iL q) = true
  exact alike_iL p q
theorem row_depth (l : List Int) : (row l).depth ≤ 8 := by
  have := depth_iL l
  simp only [row, PyData.depth]
  omega
end
end Pt
namespace Pt
open PySem PySem.Spec PyProof.Rows L2
variable {K : PySem.W.Frag} {C : Addr} {H H' H1 H2 : Hp} {v w x y : V} {vs : List V} {d e : PyData} {ds es : List PyData}
variable {S : List Addr} {G : List (V × PyData)} {H0 : Hp} {σ : L2.St} {Γ : List Ct} {i j k l : Nat} {c : Ct} {te ta tb tc tl ty td tv : TE} {t u : TT}
variable {D : Ends} {tu tw tz : TS} {p q f : Addr} {b : Int} {E : XK} {P : Program} {W : World}
theorem eqv_nil (ds : List PyData) : PyData.eqv (.list ds) (.list []) = ds.isEmpty := by
  simp only [PyData.eqv]
  cases ds <;> simp [PyData.eqvAll]
theorem ev_eqNilN (ha : EvN K C ta σ H ds) (hs : SeqAt.shaped (.list ds) = true) : EvC K C (tOp (rEqD K) ta (tLst tNil)) σ H (.d (.bool ds.isEmpty)) := fun H1 e1 Q q =>
  ha H1 e1 _ fun a H2 _ e2 a2 => (en_lst ed_nil (Nat.zero_le _) : EvN K C (tLst tNil) σ H []) H2 (e1.trans e2) _ fun b H3 _ e3 a3 => by
    obtain ⟨_, xs, s, t⟩ := CtAt.mono e3 a2
    obtain ⟨_, ys, s', t'⟩ := a3
    refine ⟨_, _, .lst (SqL.of s) (TdAll.dp _ _ t), .lst (SqL.of s') (TdAll.dp _ _ t'), hs, shaped_list [], ?_⟩
    rw [eqv_nil]
    exact q _ H3 (e2.trans e3) (.bl _)
theorem ev_neNilN (ha : EvN K C ta σ H ds) (hs : SeqAt.shaped (.list ds) = true) : EvC K C (tOp (rNeD K) ta (tLst tNil)) σ H (.d (.bool (!ds.isEmpty))) := by
  rw [← eqv_nil]
  exact ev_neN ha (en_lst ed_nil (Nat.zero_le _)) hs (shaped_list [])
end Pt
namespace Pt
open PySem PySem.Spec PyProof.Rows L2
abbrev EnV := List Int × V × Addr
def EntsV (es : List EnV) (xs : List (List Key × Addr × Value)) : Prop := Paired (fun (e : EnV) (q : List Key × Addr × Value) => q.1 = rowK e.1 ∧ q.2.1 = e.2.2 ∧ RelV e.2.1 q.2.2) es xs
def lookV (es : List EnV) (k : List Int) : Option V := (es.find? fun e => decide (e.1 = k)).map (·.2.1)
theorem EntsV.val {es : List EnV} {xs : List (List Key × Addr × Value)} (r : EntsV es xs) (k : List Int) : RelO (lookV es k) ((atKey xs (rowK k)).map (·.2)) := by
  unfold EntsV at r
  induction r with
  | nil => exact True.intro
  | @cons p q ps qs h t ih =>
    obtain ⟨h1, _, h2⟩ := h
    by_cases e : p.1 = k
    · have e' : q.1 = rowK k := by rw [h1, e]
      have a : lookV (p :: ps) k = some p.2.1 := by simp [lookV, List.find?_cons, e]
      have b : atKey (q :: qs) (rowK k) = some q.2 := by simp [atKey, List.find?_cons, e']
      rw [a, b]; exact h2
    · have e' : ¬ q.1 = rowK k := fun z => e (rowK_inj (h1.symm.trans z))
      have a : lookV (p :: ps) k = lookV ps k := by simp [lookV, List.find?_cons, e]
      have b : atKey (q :: qs) (rowK k) = atKey qs (rowK k) := by simp [atKey, List.find?_cons, e']
      rw [a, b]; exact ih
theorem EntsV.len {es : List EnV} {xs : List (List Key × Addr × Value)} (r : EntsV es xs) : es.length = xs.length := Paired.length r
section
variable {X : Cx} {pins : List (Addr × Obj)} {σ : L2.St} {H : Hp} {s : Shared} {a b : Addr} {A : Around} {E : Value → Shared → Prop}
end
section
variable {X : Cx} {o i e value : Expr} {pos pos' : Pos} {td ty tv : TE}
end
section
variable {K : PySem.W.Frag} {C : Addr} {H H' H1 H2 : Hp} {v w x y : V} {vs : List V} {d e : PyData} {ds es : List PyData}
variable {S : List Addr} {G : List (V × PyData)} {H0 : Hp} {σ : L2.St} {Γ : List Ct} {i j k : Nat} {c : Ct} {te ta tb tc tl ty td tv : TE} {t u : TT}
variable {D : Ends} {tu tw tz : TS} {p q f : Addr} {P : Program} {W : World}
end
section
open PySem.W PySem.Calls PyProof.Rows PyProof.V
variable {prog : Program} {w : World} {A : Around} {E : Value → Shared → Prop} {s : Shared} {T : String} {r d : Addr} {n : Nat} {P : Nat → Value → Prop} {OK : Heap → Prop} {Q : Value → Shared → Prop}
end
section
open PySem.W
variable {X : Cx} {pins : List (Addr × Obj)} {σ : L2.St} {H : Hp} {s : Shared}
end
section
variable {K : PySem.W.Frag} {C : Addr} {H H' H1 H2 : Hp} {v w x y : V} {vs : List V} {d e : PyData} {ds es : List PyData}
variable {S : List Addr} {G : List (V × PyData)} {H0 : Hp} {σ : L2.St} {Γ : List Ct} {i j : Nat} {c : Ct} {te ta tb tc tl ty td tv : TE} {t u : TT}
variable {D : Ends} {tu tw tz : TS} {p q f : Addr} {P : Program} {W : World}
end
section
variable {X : Cx} {pins : List (Addr × Obj)} {σ : L2.St} {H : Hp} {s : Shared}
end
section
variable {K : PySem.W.Frag} {C : Addr} {H H' H1 H2 : Hp} {v w x y : V} {vs : List V} {d e : PyData} {ds es : List PyData}
variable {S : List Addr} {G : List (V × PyData)} {H0 : Hp} {σ : L2.St} {Γ : List Ct} {i j : Nat} {c : Ct} {te ta tb tc tl ty td tv : TE} {t u : TT}
variable {D : Ends} {tu tw tz : TS} {p q f : Addr} {P : Program} {W : World}
end
end Pt
namespace PySem.SeqAt
open PySem PySem.Calls PyProof.Rows PySem.W
section
variable {A : Around} {s : Shared}
theorem tupLtCall {prog : Program} {w : World} {E : Value → Shared → Prop} {Q : Value → Shared → Prop} {l b : Addr} {xs ys : Array Value} {e r : Nat → Bool} (hl : s.heap.IsTuple l xs) (hb : s.heap.IsTuple b ys) (he : ∀ j (h1 : j < xs.size) (h2 : j < ys.size), EqAt A.in1 s xs[j] ys[j] (e j)) (hr : ∀ j (h1 : j < xs.size) (h2 : j < ys.size), e j = false → RcLt A.in1 s xs[j] ys[j] (r j))
    (h : Q (.bool (firstLt e r (decide (xs.size < ys.size)) (List.range (min xs.size ys.size)))) s) : wpAny (model prog w) A (call (.builtin "tuple.__lt__") [.ref l, .ref b]) Q E s := by
  obtain ⟨⟨c1, d1, t1, s1⟩, ho, hc, n, hd⟩ := id hl
  obtain ⟨⟨c2, d2, t2, s2⟩, ho2, hc2, n2, hd2⟩ := id hb
  simp only at hc hd hc2 hd2
  subst hc hd hc2 hd2
  exact call_meets F.slot_tuple_lt ⟨_, ho, rfl⟩ F.entry_tuple_lt (F.args_tuple_lt_2 _ _) (tuple_ltAt l b xs ys n n2 d1 d2 s1 s2 e r) ⟨ho, ho2, he, hr, h⟩
theorem oneLt_tup {prog : Program} {w : World} {E : Value → Shared → Prop} {f : Bool} {xs ys : List PyData} {a b : Value} {as bs : List Addr} {Q : Bool → Shared → Prop} (ra : Reads s.heap a (.tuple xs) as) (rb : Reads s.heap b (.tuple ys) bs) (h : alike (.tuple xs) (.tuple ys) = true) (hu : A.units + min (PyData.tuple xs).depth (PyData.tuple ys).depth < cLine) (hq : Q (dataLt (.tuple xs) (.tuple ys)) s) : wpAny (model prog w) A (oneLt' f a b) Q E s := by
  cases f with
  | false => exact oneLt_alike (fun z => by cases z) ra rb h (fun z => by cases z) hu hq
  | true =>
    have hal : alikeAll xs ys = true := by simpa [alike] using h
    cases ra with
    | @tuple l o vs n _ as₁ h1 h2 h3 h4 =>
      cases rb with
      | @tuple l' o' vs' n' _ bs₁ k1 k2 k3 k4 =>
        have n1 : vs.size = xs.length := by simpa using ReadsAll.length _ _ _ h4
        have n2 : vs'.size = ys.length := by simpa using ReadsAll.length _ _ _ k4
        rw [dataLt_tuple, ← firstLt_toks xs ys hal, ← n1, ← n2] at hq
        rw [oneLt'_eq]
        simp only [if_true]
        refine wpAny_bind (wpAny_cRoomFor (room_here hu) ?_)
        refine wpAny_bind (wpAny_callSpecialIfBound?_slot (T := "tuple") ⟨_, h1, h2⟩ F.slot_tuple_lt (tupLtCall (e := pairEq xs ys) (r := fun j => dataLt (xs.getD j .none) (ys.getD j .none)) ⟨_, h1, h2, _, h3⟩ ⟨_, k1, k2, _, k3⟩ (fun j j1 j2 => ?_) (fun j j1 j2 hj => ?_) ?_))
        · have z := eqAt_alikeAll xs ys A.in1 s vs.toList vs'.toList _ _ h4 k4 hal (room_in hu) j (by simpa using j1) (by simpa using j2)
          rw [Array.getElem_toList, Array.getElem_toList] at z
          exact z
        · have z := rcLt_alikeAll xs ys A.in1 s vs.toList vs'.toList _ _ h4 k4 hal (room_in hu) j (by simpa using j1) (by simpa using j2) hj
          rw [Array.getElem_toList, Array.getElem_toList] at z
          exact z
        · exact wpAny_truthy_bool hq
end
end PySem.SeqAt
namespace Pt
open PySem PySem.Spec PyProof.Rows L2
section
open PySem.W
variable {prog : Program} {w : World} {A : Around} {E : Value → Shared → Prop} {s : Shared}
inductive MixTups (h : Heap) : List Value → List (Option Value) → Prop
  | nil : MixTups h [] []
  | cons {a : Addr} {o : Obj} {xs : Array Value} {n : Nat} {vs : List Value} {fs : List (Option Value)} : h.get? a = some o → o.cls = .type "tuple" → o.data = .seq xs n → MixTups h vs fs → MixTups h (.ref a :: vs) (xs[0]? :: fs)
theorem MixTups.length {h : Heap} {vs : List Value} {fs : List (Option Value)} (t : MixTups h vs fs) : fs.length = vs.length := by
  induction t with
  | nil => rfl
  | cons _ _ _ _ ih => exact congrArg (· + 1) ih
theorem mix_firsts {M : Model} : ∀ {vs : List Value} {fs : List (Option Value)} {Q : List (Option Value) → Shared → Prop}, MixTups s.heap vs fs → Q fs s → wpAny M A (vs.mapM firstOfTuple') Q E s
  | _, _, _, .nil, h => by rw [List.mapM_nil]; exact wpAny_pure h
  | _, _, Q, @MixTups.cons _ a o xs n vs fs ho hc hd t, h => by
    rw [List.mapM_cons]
    refine wpAny_bind ?_
    rw [kas_first_eq]
    refine wpAny_bind (Looks.here (show Looks M s.heap (typeOf (.ref a)) o.cls from (Looks.ld ho).andThen .now) ?_)
    rw [hc, if_neg (by decide)]
    refine wpAny_bind (listItems_at ho hd (wpAny_pure ?_))
    exact wpAny_bind (mix_firsts (Q := fun bs s' => wpAny M A (pure (xs[0]? :: bs)) Q E s') t (wpAny_pure h))
theorem MixTups.typed {h : Heap} {M : Model} {vs : List Value} {fs : List (Option Value)} (t : MixTups h vs fs) : ∀ v ∈ vs, Looks M h (typeOf v) (Value.type "tuple") := by
  induction t with
  | nil => exact fun v m => by cases m
  | @cons a o xs n vs fs ho hc hd _ ih =>
    intro v m
    rcases List.mem_cons.mp m with rfl | m
    · have : Looks M h (typeOf (.ref a)) o.cls := (Looks.ld ho).andThen .now
      rw [hc] at this
      exact this
    · exact ih v m
theorem mix_kind {M : Model} {vs : List Value} {fs : List (Option Value)} {Q : SortKind → Shared → Prop} (t : MixTups s.heap vs fs) (hn : none ∈ fs) (h1 : (∃ f r, fs = some f :: r) → Q general' s) (h2 : (∃ r, fs = none :: r) → Q oneType' s) : wpAny M A (keyKind' vs.toArray) Q E s := by
  rw [keyKind'_eq, List.mapM_toArray, map_eq_pure_bind]
  refine wpAny_bind (wpAny_bind (mix_firsts t (wpAny_pure ?_)))
  rw [if_neg (by
    rw [List.all_toArray, List.all_eq_true]
    exact fun z => by have := z none hn; cases this)]
  have hlen := t.length
  cases fs with
  | nil => cases hn
  | cons f r =>
    cases f with
    | some f =>
      rw [if_pos (by simp)]
      exact wpAny_pure (h1 ⟨f, r, rfl⟩)
    | none =>
      rw [if_neg (by simp)]
      rw [oneTypeOnly'_eq, List.mapM_toArray, map_eq_pure_bind]
      refine wpAny_bind (wpAny_bind (wpAny_bind (kas_mapM (r := Value.type "tuple") _ (fun v hv Q' hq => (t.typed v hv).here hq) (wpAny_pure ?_))))
      have h0 : (List.map (fun _ => Value.type "tuple") vs).toArray[0]? = some (Value.type "tuple") := by
        cases vs with
        | nil => cases hlen
        | cons v vs => simp
      have hall : ((List.map (fun _ => Value.type "tuple") vs).toArray.all fun x => x == Value.type "tuple") = true := by
        simp only [List.all_toArray, List.all_map, List.all_eq_true]
        exact fun _ _ => beq_self_eq_true (Value.type "tuple")
      rw [h0]
      simp only [hall, if_true]
      exact wpAny_pure (wpAny_pure (h2 ⟨r, rfl⟩))
theorem mix_of : ∀ {vs : List Value} {ds : List PyData}, EachIs (fun v d => ∃ as, Reads s.heap v d as) vs ds → (∀ d, d ∈ ds → ∃ x, d = .tuple x) → ∃ fs, MixTups s.heap vs fs ∧ (.tuple [] ∈ ds → none ∈ fs)
  | _, _, .nil, _ => ⟨[], .nil, fun z => by cases z⟩
  | _, _, .cons (b := d) ⟨as, r⟩ t, ht => by
    obtain ⟨fs, h1, h2⟩ := mix_of t fun d hd => ht d (List.mem_cons_of_mem _ hd)
    obtain ⟨x, rfl⟩ := ht d (List.mem_cons_self ..)
    cases r with
    | @tuple a o xs n _ _ ho hc hd hr =>
      refine ⟨xs[0]? :: fs, .cons ho hc hd h1, fun m => ?_⟩
      rcases List.mem_cons.mp m with m | m
      · injection m with m
        subst m
        have : xs.toList = [] := by
          cases q : xs.toList with
          | nil => rfl
          | cons f fr => rw [q] at hr; cases hr
        rw [← Array.getElem?_toList, this]
        exact List.mem_cons_self
      · exact List.mem_cons_of_mem _ (h2 m)
theorem can_tups {ds : List PyData} (al : AllAlike ds) (tups : ∀ d ∈ ds, ∃ x, d = .tuple x) : Can ds := fun P w A s vs e u => by
  by_cases empty : .tuple [] ∈ ds
  · have lt : ∀ {f : Bool} {E : Value → Shared → Prop} {x y : Value} {a b : List (Int ⊕ List Nat)} {Q : Bool → Shared → Prop}, (dataKind s.heap ds).keyOf x = some a → (dataKind s.heap ds).keyOf y = some b → Q (lexLt itemOrd a b) s → wpAny (model P w) A (oneLt' f x y) Q E s := fun {f E x y a b Q} ka kb q => by
      obtain ⟨d, as, md, ra, rfl⟩ := dataKind_inv ka
      obtain ⟨d', as', md', rb, rfl⟩ := dataKind_inv kb
      obtain ⟨i, rfl⟩ := tups d md
      obtain ⟨j, rfl⟩ := tups d' md'
      exact SeqAt.oneLt_tup ra rb (al _ md _ md') (Nat.lt_of_le_of_lt (Nat.add_le_add_left (Nat.min_le_left _ _) _) (u _ md)) q
    obtain ⟨fs, t, hn⟩ := mix_of e tups
    match fs, t, hn empty with
    | some f :: r, t, hn => exact ⟨keys_told e al, general', fun E x y a b Q ka kb q => (lt (f := false) ka kb q : wpAny _ _ (oneLt' false x y) _ _ _), fun _ E Q q => mix_kind t hn (fun _ => q) fun ⟨r, z⟩ => nomatch z⟩
    | none :: r, t, hn => exact ⟨keys_told e al, oneType', fun E x y a b Q ka kb q => by rw [keyLt'_oneType]; exact lt ka kb q, fun _ E Q q => mix_kind t hn (fun ⟨f, r, z⟩ => nomatch z) fun _ => q⟩
  · refine SortsAt.data e al (.inl fun d m => ?_) u
    obtain ⟨x, rfl⟩ := tups d m
    cases x with
    | nil => exact absurd m empty
    | cons y r => exact ⟨y, r, rfl⟩
end
def rSortT (K : PySem.W.Frag) : List V → Hp → VK → Prop := fun vs H Q => ∃ (a : Addr) (xs : List V) (ds : List PyData), vs = [.ref a] ∧ SqL K H a xs ∧ TdAll K H xs ds ∧ PySem.W.AllAlike ds ∧ (∀ d ∈ ds, ∃ x, d = .tuple x) ∧ (∀ d ∈ ds, d.depth ≤ 8) ∧
  ∀ (ys : List V) (p : Addr), TdAll K H ys (sortedD ds) → H p = none → Q (.ref p) (L2.upd H p (.lst ys))
theorem call_sortT {X : Cx} (hu : X.A.units + 12 < cLine) : CallR X (.builtin "sorted") (rSortT X.K) := fun pins s σ H vs us Q I r ⟨a, xs, ds, ev, lst, td, al, tups, deep, q⟩ => by
  subst ev
  rw [Vals.ref1 r]
  exact sorted_can hu I lst td al (can_tups al tups) deep q
theorem call_sortTK {X : Cx} (K : PySem.W.Frag) (hu : X.A.units + 12 < cLine) (h : X.K = K := by rfl) : CallR X (.builtin "sorted") (rSortT K) := h ▸ call_sortT hu
section
variable {K : PySem.W.Frag} {C : Addr} {H H' H1 H2 : Hp} {σ : L2.St} {te : TE} {ds : List PyData}
theorem en_sortTL {p : Addr} (h : EvC K C te σ H (.l p ds)) (h1 : PySem.W.AllAlike ds) (h2 : ∀ d ∈ ds, ∃ x, d = .tuple x) (h3 : ∀ d ∈ ds, d.depth ≤ 8) : EvN K C (tCB (rSortT K) (tCons te tNil)) σ H (sortedD ds) := fun H1 e1 Q q =>
  h H1 e1 _ fun v H2 e2 a => by
    obtain ⟨rfl, xs, s, t⟩ := a
    exact ⟨p, xs, ds, rfl, SqL.of s, t, h1, h2, h3, fun ys l ty hl => q l _ (e2.free hl) (e2.trans (same_new hl)) (new_l hl ty)⟩
theorem en_sortTN (h : EvN K C te σ H ds) (h1 : PySem.W.AllAlike ds) (h2 : ∀ d ∈ ds, ∃ x, d = .tuple x) (h3 : ∀ d ∈ ds, d.depth ≤ 8) : EvN K C (tCB (rSortT K) (tCons te tNil)) σ H (sortedD ds) := fun H1 e1 Q q =>
  h H1 e1 _ fun p H2 hp e2 a => by
    obtain ⟨_, xs, s, t⟩ := a
    exact ⟨p, xs, ds, rfl, SqL.of s, t, h1, h2, h3, fun ys l ty hl => q l _ (e2.free hl) (e2.trans (same_new hl)) (new_l hl ty)⟩
end
end Pt
namespace Pt
open PySem PySem.Spec PyProof.Rows L2
def tLock (te : TE) : TE := fun σ H Q => te σ H fun v H1 => ∃ p xs, v = .ref p ∧ H1 p = some (.lst xs) ∧ ∀ o, Q v (L2.upd H1 p (.frz o (.lst xs)))
theorem pe_lock {X : Cx} {e : Expr} {te : TE} (h : PE X e te) : PE X e (tLock te) := ⟨fun pins s σ H Q I hq => thn (h.run pins s σ H _ I hq) fun u s1 ⟨v, H1, I1, r, p, xs, ev, hp, q⟩ => by
  obtain ⟨o, I2⟩ := I1.lock hp True.intro
  exact ⟨v, _, I2, r, q o⟩⟩
def rCatS (K : PySem.W.Frag) : R2 := fun x y H Q => ∃ l b xs zs, x = .ref l ∧ y = .ref b ∧ SqL K H l xs ∧ SqL K H b zs ∧ xs.length + zs.length ≤ sizeLine ∧ ∀ p, H p = none → Q (.ref p) (L2.upd H p (.lst (xs ++ zs)))
theorem op_catS {X : Cx} : OpR X (binaryOp .Add) (rCatS X.K) := by
  intro pins s σ H x y v u Q I rx ry h
  obtain ⟨l, b, xs, zs, rfl, rfl, ha, hb, hz, q⟩ := h
  cases rx
  cases ry
  obtain ⟨its, r1, ⟨⟨c1, d1, t1, s1⟩, n1, e1, hc1, hd1, hs1⟩, _⟩ := I.list ha
  obtain ⟨its2, r2, ⟨⟨c2, d2, t2, s2⟩, n2, e2, hc2, hd2, hs2⟩, _⟩ := I.list hb
  simp only at hc1 hd1 hs1 hc2 hd2 hs2
  subst hc1 hc2 hd1 hd2 hs1 hs2
  have l1 := r1.length
  have l2 := r2.length
  have ea : its.toArray ++ its2.toArray = (its ++ its2).toArray := by simp
  refine concat_meets ⟨_, e1, rfl⟩ ⟨_, e2, rfl⟩ noFill_list_add seq_list_add PySem.F.slot_list_add PySem.F.entry_list_add (PySem.F.args_list_add_2 _ _) (list_addW l b its.toArray its2.toArray _ _ _ _ _ _ (by rw [List.size_toArray, List.size_toArray]; omega)) ⟨e1, e2, ?_⟩
  rw [ea]
  exact ⟨.ref _, _, I.lnew (t' := s.toks) (r1.append r2) (by rw [List.length_append]; omega), rfl, q _ I.fresh⟩
theorem op_catSK {X : Cx} (K : PySem.W.Frag) (h : X.K = K := by rfl) : OpR X (binaryOp .Add) (rCatS K) := h ▸ op_catS
section
variable {K : PySem.W.Frag} {C : Addr} {H H' H1 H2 : Hp} {v w x y : V} {vs : List V} {d e : PyData} {ds es : List PyData}
variable {S : List Addr} {G : List (V × PyData)} {H0 : Hp} {σ : L2.St} {Γ : List Ct} {i j : Nat} {c : Ct} {te ta tb tc tl ty td tv : TE} {t u : TT}
variable {D : Ends} {tu tw tz : TS} {p q f : Addr} {P : Program} {W : World}
theorem ev_lock (h : EvN K C te σ H ds) : EvC K C (tLock te) σ H (.d (.list ds)) := fun H1 e1 Q q => h H1 e1 _ fun p H2 hp e2 a => by
  obtain ⟨_, xs, s, t⟩ := a
  have tx : ∀ o, Tx H2 (L2.upd H2 p (.frz o (.lst xs))) := fun o => .fr (LT.one s) Fr.upd
  refine ⟨p, xs, rfl, s, fun o => q _ _ (fun a ob ha => ?_) (.lst ⟨o, upd_same⟩ (TdAll.mono (tx o) _ _ t))⟩
  rw [upd_ne (ne_of_none ha hp)]
  exact e2 _ _ ha
theorem en_addDN (ha : EvC K C ta σ H (.d (.list ds))) (hb : EvN K C tb σ H es) (hl : ds.length + es.length ≤ 10000000) : EvN K C (tOp (rCatS K) ta tb) σ H (ds ++ es) := fun H1 e1 Q q =>
  ha H1 e1 _ fun v H2 e2 a2 => hb H2 (e1.trans e2) _ fun p' H3 _ e3 a3 => by
    obtain ⟨a, xs, rfl, s1, d1⟩ := Td.lst_of (Td.mono (.of e3) _ _ a2)
    obtain ⟨_, ys, s2, d2⟩ := a3
    have l1 := d1.length
    have l2 := d2.length
    exact ⟨a, p', xs, ys, rfl, rfl, s1.sq, SqL.of s2, Nat.le_trans (by omega) (show 10000000 ≤ sizeLine by decide), fun l hl => q l _ ((e2.trans e3).free hl) ((e2.trans e3).trans (same_new hl)) (new_l hl (d1.append d2))⟩
theorem ev_ixDL {k : Int} (ha : EvC K C ta σ H (.d (.list ds))) (hb : EvC K C tb σ H (.d (.int k))) (h : atI ds k = some d) : EvC K C (tOp (rIx K) ta tb) σ H (.d d) :=
  ev_op2 ha hb fun H1 _ x y a1 a2 Q q => by
    obtain ⟨p, xs, rfl, s, a⟩ := Td.lst_of a1
    obtain ⟨v, e, t⟩ := atI_td a h
    exact .inl ⟨p, xs, k, v, rfl, a2.int_of, s.sq, e, q v H1 (Same.refl H1) t⟩
theorem en_lcD {α : Type} {l : List α} {mk : α → PyData} (w : Wd K C S G H0 H σ Γ) (hl : EvC K C tl σ H (.d (.list (l.map mk)))) (f : α → Bool) (g : α → PyData) (hz : l.length < 10000000)
    (ht : ∀ x ∈ l, ∀ σ1 H1, Wd K C S G H0 H1 σ1 ((Γ.set j .u).set j (.d (mk x))) → EvT t σ1 H1 (f x)) (he : ∀ x ∈ l, ∀ σ1 H1, Wd K C S G H0 H1 σ1 ((Γ.set j .u).set j (.d (mk x))) → f x = true → EvC K C te σ1 H1 (.d (g x))) :
    EvN K C (tLc (iList K tl) (gName j) t te [j]) σ H (kept f g l) := fun H1 e1 Q q => hl H1 e1 _ fun v H2 e2 a => by
  obtain ⟨p, xs, rfl, s, td⟩ := Td.lst_of a
  have len : xs.length = l.length := by rw [td.length, List.length_map]
  refine ⟨p, rfl, ⟨xs, s.sq⟩, fun Dl hD => lc_list (xs := xs) (fun k H' => Cw K H2 Dl (kept f g (l.take k)) H') (by rw [List.take_zero]; exact Cw.start hD) (fun k H' _ c => ((Tx.of c.2.1).fzF s).sq) (fun k x H' hk c => ?_) (fun H' c => ?_)⟩
  · have hk' : k < l.length := by rw [← len]; exact (List.getElem?_eq_some_iff.mp hk).1
    have ek : l[k]? = some l[k] := List.getElem?_eq_getElem hk'
    obtain ⟨d, h1, h2⟩ := td.get' hk
    have ed : d = mk l[k] := by rw [List.getElem?_map, ek] at h1; exact (Option.some.inj h1).symm
    subst ed
    have w2 : Wd K C S G H0 H2 ((wipe σ [j]).set j (some x)) ((Γ.set j .u).set j (.d (mk l[k]))) := ((w.mono (e1.trans e2)).wiped j).set j h2
    have m : l[k] ∈ l := List.getElem_mem hk'
    show wipe ((wipe σ [j]).set j (some x)) [j] = wipe σ [j] ∧ _
    refine ⟨wipe1 σ j _, ?_⟩
    have z := cw_turn (C := C) (te := te) (d := g l[k]) c (Nat.lt_of_le_of_lt kept_len hz) (ht _ m _ _ w2) (he _ m _ _ w2)
    rw [← kept_step ek] at z
    exact z
  · rw [len, List.take_length] at c
    obtain ⟨c1, c2, acc, c3, c4⟩ := c
    exact q Dl H' (e2.free c1) (e2.trans c2) ⟨rfl, acc, c3, c4⟩
theorem walkDL {a : Addr} {g : TG} {D : Ends} (Pv : Nat → L2.St → Hp → Prop) (h0 : Pv 0 σ H) (hw : ∀ k σ' H', Pv k σ' H' → Td K H' (.ref a) (.list ds))
    (hs : ∀ k d v σ' H', ds[k]? = some d → Td K H' v d → Pv k σ' H' → g v σ' H' fun σ2 H2 => tu { D with nx := Pv (k + 1), ct := Pv (k + 1), bk := D.nx } σ2 H2) (hd : ∀ σ' H', Pv ds.length σ' H' → D.nx σ' H') : Turns (Itl K a) g tu D σ H := turns_nth told_L Pv h0 (fun k σ' H' p => by
  obtain ⟨_, xs, e, s, t⟩ := Td.lst_of (hw k σ' H' p)
  cases e
  exact ⟨xs, s.sq, t⟩) hs hd
end
end Pt
namespace Pt
open PySem PySem.Spec PyProof.Rows L2
variable {K : PySem.W.Frag} {C : Addr} {H H' H1 H2 : Hp} {v w x y : V} {vs : List V} {d e : PyData} {ds es : List PyData}
variable {S : List Addr} {G : List (V × PyData)} {H0 : Hp} {σ : L2.St} {Γ : List Ct} {i j k l m b : Nat} {c : Ct} {te ta tb tc tl ty td tv : TE} {t u : TT} {ts : TA}
variable {D : Ends} {tu tw tz : TS} {p q f : Addr} {E : XK} {P : Program} {W : World} {α β : Type}
def CAll (K : PySem.W.Frag) (C : Addr) (ce : β → Ct) (H : Hp) : List V → List β → Prop
  | [], [] => True
  | v :: vs, b :: bs => CtAt K C H v (ce b) ∧ CAll K C ce H vs bs
  | _, _ => False
theorem CAll.fr {T : List Addr} {ce : β → Ct} (hce : ∀ b, (ce b).adr = []) (l : LT T H) (f : Fr T H H') : ∀ {vs : List V} {bs : List β}, CAll K C ce H vs bs → CAll K C ce H' vs bs
  | [], [], _ => True.intro
  | _ :: _, b :: _, ⟨a, r⟩ => ⟨CtAt.fr l f (by rw [hce b]; simp) a, CAll.fr hce l f r⟩
  | [], _ :: _, h => h.elim
  | _ :: _, [], h => h.elim
theorem CAll.mono {ce : β → Ct} (hce : ∀ b, (ce b).adr = []) (e : Same H H') {vs : List V} {bs : List β} (h : CAll K C ce H vs bs) : CAll K C ce H' vs bs := h.fr hce LT.nil (Fr.of e [])
theorem CAll.length {ce : β → Ct} : ∀ {vs : List V} {bs : List β}, CAll K C ce H vs bs → vs.length = bs.length
  | [], [], _ => rfl
  | _ :: _, _ :: _, ⟨_, r⟩ => congrArg (· + 1) (CAll.length r)
  | [], _ :: _, h => h.elim
  | _ :: _, [], h => h.elim
theorem CAll.get {ce : β → Ct} : ∀ {vs : List V} {bs : List β} {k : Nat} {v : V}, CAll K C ce H vs bs → vs[k]? = some v → ∃ b, bs[k]? = some b ∧ CtAt K C H v (ce b)
  | _ :: _, b :: _, 0, _, ⟨a, _⟩, e => ⟨b, rfl, by cases e; exact a⟩
  | _ :: _, _ :: _, k + 1, _, ⟨_, r⟩, e => CAll.get (k := k) r e
  | [], _, _, _, _, e => by simp at e
  | _ :: _, [], _, _, h, _ => h.elim
theorem CAll.data : ∀ {vs : List V} {bs : List β} {g : β → PyData}, CAll K C (fun b => .d (g b)) H vs bs → TdAll K H vs (bs.map g)
  | [], [], _, _ => .nil
  | _ :: _, _ :: _, _, ⟨a, r⟩ => .cons a (CAll.data r)
  | [], _ :: _, _, h => h.elim
  | _ :: _, [], _, h => h.elim
def EvM (K : PySem.W.Frag) (C : Addr) (te : TE) (σ : L2.St) (H : Hp) (ce : β → Ct) (bs : List β) : Prop := ∀ H1, Same H H1 → ∀ Q : VK, (∀ p xs H2, H1 p = none → Same H1 H2 → H2 p = some (.lst xs) → CAll K C ce H2 xs bs → Q (.ref p) H2) → te σ H1 Q
theorem EvM.n {bs : List β} {g : β → PyData} (h : EvM K C te σ H (fun b => .d (g b)) bs) : EvN K C te σ H (bs.map g) := fun H1 e1 Q q => h H1 e1 _ fun p xs H2 hp e2 s a => q p H2 hp e2 ⟨rfl, xs, s, a.data⟩
end Pt
namespace Pt
open PySem PySem.Spec PyProof.Rows L2
variable {K : PySem.W.Frag} {C : Addr} {H H' H1 H2 : Hp} {v w x y : V} {vs : List V} {d e : PyData} {ds es : List PyData}
variable {S : List Addr} {G : List (V × PyData)} {H0 : Hp} {σ : L2.St} {Γ : List Ct} {i j k l m : Nat} {c : Ct} {te ta tb tc tl ty td tv : TE} {t u : TT} {ts : TA}
variable {D : Ends} {tu tw tz : TS} {p q f : Addr} {E E' : XK} {P : Program} {W : World} {R R2 : PyData → Prop}
def DrI (K : PySem.W.Frag) (C : Addr) (S : List Addr) (G : List (V × PyData)) (H0 : Hp) (σ : L2.St) (Γ : List Ct) (te : TE) (R : Int → Prop) : Prop := ∀ H, Wd K C S G H0 H σ Γ → ∀ Q : VK, (∀ r H', R r → Wd K C S G H0 H' σ Γ → Q (.int r) H') → te σ H Q
end Pt
namespace Pt
open PySem PySem.Spec PyProof.Rows L2
section
variable {X : Cx}
theorem pget_list : PGet X (rIxL X.K) := fun pins s σ H x y v u Q I rx ry ⟨p, xs, i, z, ex, ey, lst, item, q⟩ => by
  subst ex ey
  obtain rfl : v = .ref p := rx
  obtain ⟨t, rfl⟩ := ry
  obtain ⟨its, r, here, _⟩ := I.list lst
  obtain ⟨j, place, nth, below, a, b⟩ := atI_get item
  obtain ⟨w, cell, rw'⟩ := r.get nth
  have size : its.toArray.size = xs.length := by rw [List.size_toArray, r.length]
  have cell : its.toArray[j]? = some w := by simpa using cell
  have got : EP X pins σ Q w s := ⟨z, H, I, rw', q⟩
  have fit := line63
  rcases Int.lt_or_le i 0 with neg | pos
  · rw [seqIndex_neg neg a, ← size] at place
    exact wpAny_getItem_list_neg here.isList neg (by omega) (by omega) (by rw [Option.some.inj place]; exact cell) got
  · rw [seqIndex_of pos b] at place
    exact wpAny_getItem_list here.isList pos (by omega) (by rw [Option.some.inj place]; exact cell) got
theorem pget_listK (K : PySem.W.Frag) (h : X.K = K := by rfl) : PGet X (rIxL K) := h ▸ pget_list
end
variable {K : PySem.W.Frag} {C : Addr} {H H' H1 H2 : Hp} {v w x y : V} {vs : List V} {d e : PyData} {ds es : List PyData}
variable {S : List Addr} {G : List (V × PyData)} {H0 : Hp} {σ : L2.St} {Γ : List Ct} {i j k l m b : Nat} {c : Ct} {te ta tb tc tl ty td tv : TE} {t u : TT} {ts : TA}
variable {D : Ends} {tu tw tz : TS} {p q f : Addr} {E : XK} {P : Program} {W : World}
theorem en_repL {k : Int} (ha : EvN K C ta σ H ds) (hb : EvC K C tb σ H (.d (.int k))) (h1 : -1000 ≤ k) (h2 : k ≤ 1000) (hl : ds.length ≤ 1000) : EvN K C (tOp rRep ta tb) σ H (List.replicate k.toNat ds).flatten := fun H1 e1 Q q =>
  ha H1 e1 _ fun p H2 hp e2 a2 => hb H2 (e1.trans e2) _ fun y H3 e3 a3 => by
    obtain ⟨_, xs, s, d1⟩ := CtAt.mono e3 a2
    have rep : ∀ m : Nat, TdAll K H3 (List.replicate m xs).flatten (List.replicate m ds).flatten := fun m => by
      induction m with
      | zero => exact .nil
      | succ m ih =>
        rw [List.replicate_succ, List.replicate_succ, List.flatten_cons, List.flatten_cons]
        exact d1.append ih
    refine ⟨p, k, xs, rfl, Td.int_of a3, s, by omega, by omega, ?_, fun l hl' => q l _ ((e2.trans e3).free hl') ((e2.trans e3).trans (same_new hl')) (new_l hl' (rep _))⟩
    rw [d1.length]
    exact Nat.le_trans (Nat.mul_le_mul hl (show k.toNat ≤ 1000 by omega)) (Nat.le_of_ble_eq_true rfl)
theorem ixN_at {n : Nat} {j : Nat} (h : j < n) : ixN n (j : Int) = some j := by
  unfold ixN
  rw [if_pos (by omega), if_pos (by omega)]
  simp
theorem s_setL {j : Nat} (w : Wd K C S G H0 H σ Γ) (hi : Γ[i]? = some (.l p ds)) (h : EvC K C te σ H (.d d)) (hx : ∀ H1, Wd K C S G H0 H1 σ Γ → EvC K C tb σ H1 (.d (.int (j : Nat)))) (hj : j < ds.length)
    (k : ∀ H1, Wd K C S G H0 H1 σ (Γ.set i (.l p (ds.set j d))) → D.nx σ H1) : tAsg te (gSub (tVar i) tb rSetL) D σ H :=
  h H (Same.refl H) _ fun x H1 e1 a1 => by
    have w1 := w.mono e1
    obtain ⟨v, ev, rfl, xs, s, t⟩ := w1.get hi
    refine ⟨.ref p, ev, hx H1 w1 H1 (Same.refl H1) _ fun y H2 e2 a2 => ?_⟩
    rw [Td.int_of a2]
    refine ⟨p, xs, (j : Nat), j, rfl, rfl, e2 _ _ s, ixN_at (by rw [t.length]; exact hj), ?_⟩
    exact k _ ((w1.mono e2).chg hi ((TdAll.mono (.of e2) _ _ t).set j (Td.mono (.of e2) _ _ a1)))
theorem s_addL {j : Nat} {x0 z : Int} (w : Wd K C S G H0 H σ Γ) (hi : Γ[i]? = some (.l p ds)) (hx : EvC K C tb σ H (.d (.int (j : Nat)))) (hg : ds[j]? = some (.int x0)) (h : ∀ H1, Wd K C S G H0 H1 σ Γ → EvC K C te σ H1 (.d (.int z)))
    (k : ∀ H1, Wd K C S G H0 H1 σ (Γ.set i (.l p (ds.set j (.int (x0 + z))))) → D.nx σ H1) : tAugS (tVar i) tb te (rIxL K) (ipI fun i j => i + j) rSetL D σ H := by
  obtain ⟨v, ev, rfl, xs, s, t⟩ := w.get hi
  have hj : j < ds.length := (List.getElem?_eq_some_iff.mp hg).1
  refine ⟨.ref p, ev, hx H (Same.refl H) _ fun y H2 e2 a2 => ?_⟩
  rw [Td.int_of a2]
  have w2 := w.mono e2
  have t2 := TdAll.mono (.of e2) _ _ t
  obtain ⟨y, ey, ty⟩ := t2.get hg
  refine ⟨p, xs, (j : Nat), y, rfl, rfl, SqL.of (e2 _ _ s), atI_nat ey, ?_⟩
  refine h H2 w2 H2 (Same.refl H2) _ fun z' H3 e3 a3 => ⟨x0, z, Td.int_of ty, Td.int_of a3, p, xs, (j : Nat), j, rfl, rfl, e3 _ _ (e2 _ _ s), ixN_at (by rw [t.length]; exact hj), ?_⟩
  exact k _ ((w2.mono e3).chg hi ((TdAll.mono (.of e3) _ _ t2).set j (.int _)))
def spHW (K : PySem.W.Frag) (C : Addr) : Sp := fun vs H Q _ => ∃ (p c : Addr) (b : Int), vs = [.ref p, .int b] ∧ CtAt K C H (.ref p) (.h p c) ∧ 1 ≤ b ∧ b.natAbs < 2 ^ 8000 ∧ ∀ r H', 0 ≤ r → r < b → Fr [p, c] H H' → CtAt K C H' (.ref p) (.h p c) → Q (.int r) H'
theorem dr_nextW {b : Int} (w : Wd K C S G H0 H σ Γ) (hi : Γ[i]? = some (.h p q)) (hb : EvC K C tb σ H (.d (.int b))) (h1 : 1 ≤ b) (h2 : b.natAbs < 2 ^ 8000) {Q : VK} (k : ∀ (r : Int) H', 0 ≤ r → r < b → Wd K C S G H0 H' σ Γ → Q (.int r) H') :
    tCall (spHW K C) [] E (tCons (tVar i) (tCons tb tNil)) σ H Q := by
  obtain ⟨v, e, a⟩ := w.get hi
  obtain ⟨rfl, a'⟩ := id a
  refine ⟨.ref p, e, hb H (Same.refl H) _ fun y H2 e2 b2 => ⟨p, q, b, ?_, CtAt.mono e2 a, h1, h2, fun r H' r0 r1 f ct => k r H' r0 r1 ((w.mono e2).drawn hi f ct)⟩⟩
  rw [Td.int_of b2]
  rfl
theorem ev_neg {k : Int} (h : EvC K C ta σ H (.d (.int k))) : EvC K C (tUn (rU fun i => V.int (-i)) ta) σ H (.d (.int (-k))) := fun H1 e1 Q q => h H1 e1 _ fun v H2 e2 a => ⟨k, Td.int_of a, q _ H2 e2 (.int _)⟩
theorem walkEL {a : Addr} {D : Ends} {i j : Nat} (Pv : Nat → L2.St → Hp → Prop) (h0 : Pv 0 σ H) (hw : ∀ k σ' H', Pv k σ' H' → ∃ xs, SqL K H' a xs ∧ TdAll K H' xs ds)
    (hs : ∀ k d v σ' H' H2, ds[k]? = some d → Td K H2 v d → Pv k σ' H' → Same H' H2 → tu { D with nx := Pv (k + 1), ct := Pv (k + 1), bk := D.nx } ((σ'.set i (some (.int (k : Nat)))).set j (some v)) H2) (hd : ∀ σ' H', Pv ds.length σ' H' → D.nx σ' H') :
    ∃ W : Nat → Nat → L2.St → Hp → Prop, (∃ m, W 0 m σ H) ∧ ∀ q m σ H, W q m σ H →
      ((Ite K a).stop q H ∧ D.nx σ H) ∨ ((Ite K a).go q H ∧ ∃ N : L2.St → Hp → Prop, (∀ σ' H', N σ' H' → ∃ m', m' < m ∧ W (q + 1) m' σ' H') ∧ ∀ x H', (Ite K a).yld q H x H' → gTup K 2 (gCons (gName i) (gCons (gName j) gNil)) x σ H' fun σ2 H2 => tu { D with nx := N, ct := N, bk := D.nx } σ2 H2) := by
  refine ⟨fun q m σ H => m = ds.length - q ∧ q ≤ ds.length ∧ Pv q σ H, ⟨ds.length, by simp, Nat.zero_le _, h0⟩, ?_⟩
  rintro q m σ H ⟨rfl, hi, p⟩
  obtain ⟨xs, s, t⟩ := hw q σ H p
  have l := t.length
  by_cases hlt : q < ds.length
  · have hx : q < xs.length := by omega
    refine .inr ⟨⟨xs, xs[q], s, List.getElem?_eq_getElem hx⟩, Pv (q + 1), fun σ' H' p' => ⟨ds.length - (q + 1), by omega, rfl, hlt, p'⟩, fun x H' y => ?_⟩
    obtain ⟨T, x, rfl, nT, rfl, y⟩ := y
    obtain ⟨d, e1, e2⟩ := t.get' (y xs s)
    refine ⟨T, _, rfl, SqT.of upd_same, rfl, .int (q : Nat), [x], rfl, x, [], rfl, rfl, ?_⟩
    exact hs q d x σ H _ e1 (Td.mono (.of (same_new nT)) _ _ e2) p (same_new nT)
  · have e : q = ds.length := by omega
    subst e
    exact .inl ⟨⟨xs, s, by omega⟩, hd σ H p⟩
theorem s_forES {i j : Nat} {p : Addr} (w : Wd K C S G H0 H σ Γ) (h : EvC K C tl σ H (.s p ds)) (Pv : Nat → L2.St → Hp → Prop) (h0 : ∀ H1, Wd K C S G H0 H1 σ Γ → Pv 0 σ H1)
    (hw : ∀ k σ' H', Pv k σ' H' → CtAt K C H' (.ref p) (.s p ds))
    (hs : ∀ k d v σ' H' H2, ds[k]? = some d → Td K H2 v d → Pv k σ' H' → Same H' H2 → tu { D with nx := Pv (k + 1), ct := Pv (k + 1), bk := D.nx } ((σ'.set i (some (.int (k : Nat)))).set j (some v)) H2) (hd : ∀ σ' H', Pv ds.length σ' H' → D.nx σ' H') :
    tFor (iEnum K (tCons tl tNil)) (gTup K 2 (gCons (gName i) (gCons (gName j) gNil))) tu D σ H :=
  h H (Same.refl H) _ fun v H1 e a => by
    obtain ⟨rfl, xs, s, t⟩ := a
    refine ⟨p, xs, rfl, SqL.of s, walkEL Pv (h0 H1 (w.mono e)) (fun k σ' H' pv => ?_) hs hd⟩
    obtain ⟨_, xs, s, t⟩ := hw k σ' H' pv
    exact ⟨xs, SqL.of s, t⟩
theorem pi_enumK (K : PySem.W.Frag) {X : Cx} {e : Expr} {ta : TA} {p pos tpos : Pos} {elts : List Expr} {kk : Nat} (hg : Gl X "enumerate") (hm : X.mg "enumerate" = none) (ha : PA X [e] ta) (hK : X.K = K := by rfl) (hs : starEach [e] X.env = [(false, eval e X.env)] := by rfl) :
    PI X (.Tuple elts kk tpos) (.Call (.Name "enumerate" p) [e] [] pos) (iEnum K ta) := hK ▸ pi_enum hg hm ha hs
theorem s_forDL {g : TG} (w : Wd K C S G H0 H σ Γ) (h : EvC K C tl σ H (.d (.list ds))) (Pv : Addr → Nat → L2.St → Hp → Prop) (h0 : ∀ a H1, Wd K C S ((.ref a, .list ds) :: G) H0 H1 σ Γ → Pv a 0 σ H1)
    (hw : ∀ a k σ' H', Pv a k σ' H' → Td K H' (.ref a) (.list ds))
    (hs : ∀ a k d v σ' H', ds[k]? = some d → Td K H' v d → Pv a k σ' H' → g v σ' H' fun σ2 H2 => tu { D with nx := Pv a (k + 1), ct := Pv a (k + 1), bk := D.nx } σ2 H2) (hd : ∀ a σ' H', Pv a ds.length σ' H' → D.nx σ' H') : tFor (iList K tl) g tu D σ H :=
  h H (Same.refl H) _ fun v H1 e a => by
    obtain ⟨p, xs, rfl, s, t⟩ := Td.lst_of a
    exact ⟨p, rfl, ⟨xs, s.sq⟩, walkDL (Pv p) (h0 p H1 ((w.mono e).ghost a)) (hw p) (hs p) (hd p)⟩
end Pt
namespace Pt
open PySem PySem.Spec PyProof.Rows L2
section
variable {X : Cx}
end
variable {K : PySem.W.Frag} {C : Addr} {H H' H1 H2 H3 : Hp} {v w x y : V} {vs : List V} {d e : PyData} {ds es : List PyData}
variable {S : List Addr} {G : List (V × PyData)} {H0 : Hp} {σ σ2 : L2.St} {Γ Γ2 : List Ct} {i j k l m b : Nat} {c : Ct} {te ta tb tc tl ty td tv : TE} {t u : TT} {ts ts1 : TA}
variable {D : Ends} {tu tw tz : TS} {p q f : Addr} {E : XK} {P : Program} {W : World}
theorem ev_sumN {ns : List Int} (h : EvN K C te σ H (iL ns)) : EvC K C (tCB (rSum K) (tCons te tNil)) σ H (.d (.int ns.sum)) := ev_cb (ea_consN h ea_nil) fun H1 _ vs a Q q => by
  obtain ⟨v, rfl, p, xs, rfl, s, t⟩ := a.one
  rw [t.iL_of] at s
  exact ⟨p, ns, rfl, SqL.of s, q _ H1 (Same.refl H1) (.int _)⟩
theorem cr_sumK {X : Cx} (K : PySem.W.Frag) (hc : X.calm = true) (h : X.K = K := by rfl) : CallR X (.builtin "sum") (rSum K) := h ▸ cr_sum hc
end Pt
namespace Pt
open PySem PySem.Spec PyProof.Rows L2
section
variable {X : Cx}
end
variable {K : PySem.W.Frag} {C L : Addr} {H H' H1 H2 H0 : Hp} {v x y : V} {vs : List V} {d e : PyData} {ds es : List PyData}
variable {S : List Addr} {G : List (V × PyData)} {σ : L2.St} {Γ : List Ct} {i j m : Nat} {c : Ct} {te ta tb tl : TE} {t u : TT} {p q : Addr} {n : Int} {ps : List (Int × Int)} {E : XK}
variable {D : Ends} {tu tw tz : TS}
theorem ev_asN (h : EvC K C te σ H (.r v)) (a : CtAt K C H v c) : EvC K C te σ H c := fun H1 e Q k => h H1 e _ fun v' H2 e2 z => k v' H2 e2 (by
  obtain rfl : v' = v := z
  exact CtAt.mono (e.trans e2) a)
section
variable {X : Cx} {CX : CXT} {k : Nat} {f C : Addr} {fd : FuncData} {ps : List Str} {sp : Sp} {E : L2.St → XK} {m : Str} {apos pos : Pos} {e o : Expr} {es : List Expr} {ta : TE} {t : TA}
end
end Pt
namespace Pt
open PySem PySem.Spec PyProof.Rows L2
def pickG {α : Type} (xs : List α) (lo st : Option Int) : List α := (sliceRange (sliceBounds lo none st xs.length).1 (sliceBounds lo none st xs.length).2.1 (sliceBounds lo none st xs.length).2.2).filterMap (xs[·]?)
theorem vals_pick {xs : List V} {us : List Value} (r : Vals xs us) : ∀ is : List Nat, Vals (is.filterMap (xs[·]?)) (is.filterMap (us[·]?))
  | [] => .nil
  | i :: is => by
    rw [List.filterMap_cons, List.filterMap_cons]
    have hl := r.length
    by_cases h : i < xs.length
    · obtain ⟨u, hu, ru⟩ := r.get (i := i) (x := xs[i]) (List.getElem?_eq_getElem h)
      rw [List.getElem?_eq_getElem h, hu]
      exact .cons ru (vals_pick r is)
    · rw [List.getElem?_eq_none (by omega), List.getElem?_eq_none (by omega)]
      exact vals_pick r is
theorem td_pick {K : PySem.W.Frag} {H : Hp} {xs : List V} {ds : List PyData} (t : TdAll K H xs ds) : ∀ is : List Nat, TdAll K H (is.filterMap (xs[·]?)) (is.filterMap (ds[·]?))
  | [] => .nil
  | i :: is => by
    rw [List.filterMap_cons, List.filterMap_cons]
    have hl := t.length
    by_cases h : i < ds.length
    · obtain ⟨v, hv, tv⟩ := t.get (i := i) (d := ds[i]) (List.getElem?_eq_getElem h)
      rw [List.getElem?_eq_getElem h, hv]
      exact .cons tv (td_pick t is)
    · rw [List.getElem?_eq_none (by omega), List.getElem?_eq_none (by omega)]
      exact td_pick t is
def rSlK (K : PySem.W.Frag) : V → Option Int → Option Int → Option Int → Hp → VK → Prop := fun x lo hi st H Q => hi = none ∧ ∃ a xs, x = .ref a ∧ SqL K H a xs ∧ st ≠ some 0 ∧ (pickG xs lo st).length ≤ sizeLine ∧ ∀ p, H p = none → Q (.ref p) (L2.upd H p (.lst (pickG xs lo st)))
theorem sl_pick {X : Cx} : Sl3 X (rSlK X.K) := by
  rintro pins s σ H Q x v vl vu vs lo hi st sl I rx sl0 ⟨pl, pu, pt⟩ ⟨rfl, a, xs, rfl, lst, some, few, q⟩
  obtain rfl : v = .ref a := rx
  cases pu
  obtain ⟨its, r, here, line⟩ := I.list lst
  have len := r.length
  refine ⟨"list", _, slot_list_getitem.lookup, here.isList.typeIs, wpAny_getItem_list_slice here.isList sl0 pl .none pt some ?_ (by rw [List.size_toArray]; omega)⟩
  have picked : slicePick its.toArray lo none st = ((sliceRange (sliceBounds lo none st xs.length).1 (sliceBounds lo none st xs.length).2.1 (sliceBounds lo none st xs.length).2.2).filterMap (its[·]?)).toArray := by
    unfold slicePick
    rw [List.size_toArray, len]
    exact congrArg List.toArray (fm_congr fun k _ => by simp)
  rw [picked]
  exact ⟨.ref _, _, I.laid (t' := s.toks) (o := .lst (pickG xs lo st)) (fun _ _ z => Heap.get?_push_of_some _ z) (Nat.le_refl _) ⟨few, _, 0, vals_pick r _, Heap.get?_push_size _ rfl⟩, rfl, q _ (I.hok.fresh (Nat.le_refl _))⟩
def tSlK (K : PySem.W.Frag) (te : TE) (tl ts : TO) : TE := tSl3 (rSlK K) te tl tNoPart ts
theorem pe_slK {X : Cx} {e st : Expr} {lo : Option Expr} {te : TE} {tl ts : TO} {p2 pos : Pos} (ops : Value → Value → List Value) (hop : ∀ v w, subscripted (.Slice lo none (some st) p2) false v w = operate (ops v w) (getItem v w)) (he : PE X e te) (hl : PO X lo tl) (hs : PO X (some st) ts) : PE X (.Subscript e (.Slice lo none (some st) p2) pos) (tSlK X.K te tl ts) := pe_sl3 ops hop sl_pick he hl po_none hs
section
variable {K : PySem.W.Frag} {C : Addr} {H : Hp} {σ : L2.St} {te : TE} {ds : List PyData} {tl ts : TO} {lo : Option Int} {st : Int}
theorem en_slK (h : EvN K C te σ H ds) (h1 : EvO tl σ H lo) (h2 : EvO ts σ H (some st)) (h0 : st ≠ 0) (hl : (pickG ds lo (some st)).length ≤ 10000000) : EvN K C (tSlK K te tl ts) σ H (pickG ds lo (some st)) := fun H1 e1 Q q =>
  h H1 e1 _ fun p H2 hp e2 a2 => h1 H2 (e1.trans e2) _ fun H3 e3 => h2 H3 ((e1.trans e2).trans e3) _ fun H4 e4 => by
    obtain ⟨_, xs, s, t⟩ := CtAt.mono (e3.trans e4) a2
    have tp : TdAll K H4 (pickG xs lo (some st)) (pickG ds lo (some st)) := by
      unfold pickG
      rw [t.length]
      exact td_pick t _
    refine ⟨rfl, p, xs, rfl, SqL.of s, fun z => h0 (Option.some.inj z), Nat.le_trans (by rw [tp.length]; exact hl) (show 10000000 ≤ sizeLine by decide), fun p' hp' => q p' _ ?_ (((e2.trans e3).trans e4).trans (same_new hp')) (new_l hp' tp)⟩
    exact ((e2.trans e3).trans e4).free hp'
end
end Pt
namespace Pt
open PySem PySem.Spec PyProof.Rows L2
variable {K : PySem.W.Frag} {C : Addr} {H H' H1 H2 : Hp} {v w x y : V} {vs : List V} {d e : PyData} {ds es : List PyData}
variable {S : List Addr} {G : List (V × PyData)} {H0 : Hp} {σ : L2.St} {Γ : List Ct} {i j k : Nat} {c : Ct} {te ta tb tc tl ty td tv : TE} {t u : TT}
theorem en_lcEL {l : List Int} {q : Addr} (hij : i ≠ j) (w : Wd K C S G H0 H σ Γ) (hl : EvC K C tl σ H (.s q (iL l))) (f : Nat → Bool) (g : Nat → PyData) (hz : l.length < 10000000)
    (ht : ∀ p : Nat, ∀ (hp : p < l.length), ∀ σ1 H1, Wd K C S G H0 H1 σ1 ((((Γ.set j .u).set i .u).set i (.d (.int (p : Nat)))).set j (.d (.int l[p]))) → EvT t σ1 H1 (f p)) (he : ∀ p : Nat, ∀ (hp : p < l.length), ∀ σ1 H1, Wd K C S G H0 H1 σ1 ((((Γ.set j .u).set i .u).set i (.d (.int (p : Nat)))).set j (.d (.int l[p]))) → f p = true → EvC K C te σ1 H1 (.d (g p))) :
    EvN K C (tLc (iEnum K (tCons tl tNil)) (gTup K 2 (gCons (gName i) (gCons (gName j) gNil))) t te [i, j]) σ H (kept f g (List.range l.length)) := fun H1 e1 Q q' => hl H1 e1 _ fun v H2 e2 a => by
  obtain ⟨rfl, xs, s, td⟩ := a
  have len : xs.length = l.length := by rw [td.length, iL_len]
  refine ⟨q, xs, rfl, SqL.of s, fun Dl hD => lc_it walk_enum (fun k H' => Cw K H2 Dl (kept f g ((List.range l.length).take k)) H') (by rw [List.take_zero]; exact Cw.start hD) (fun k H' _ c => SqL.of (c.2.1 _ _ s)) (fun k v H' Hv _ c y => ?_) (fun H' c => ?_)⟩
  · obtain ⟨T, z, x, rfl, nT, rfl, ez, hk⟩ := y
    cases ez
    have hk' : k < l.length := by rw [← len]; exact (List.getElem?_eq_some_iff.mp hk).1
    have ek : (List.range l.length)[k]? = some k := by rw [List.getElem?_range hk']
    obtain ⟨d, h1, h2⟩ := td.get' hk
    have ed : d = .int l[k] := by
      rw [iL_get, List.getElem?_eq_getElem hk'] at h1
      exact (Option.some.inj h1).symm
    subst ed
    rw [Td.int_of h2]
    have w2 : Wd K C S G H0 H2 (((wipe σ [i, j]).set i (some (.int (k : Nat)))).set j (some (.int l[k]))) ((((Γ.set j .u).set i .u).set i (.d (.int (k : Nat)))).set j (.d (.int l[k]))) := ((((w.mono (e1.trans e2)).wiped2 i j).set i (c := .d (.int (k : Nat))) (Td.int _)).set j (c := .d (.int l[k])) (Td.int _))
    refine ⟨T, _, rfl, SqT.of upd_same, rfl, _, _, rfl, _, _, rfl, rfl, ?_⟩
    refine ⟨wipe2 σ hij _ _, ?_⟩
    have z := cw_turn (C := C) (te := te) (d := g k) (c.mono (same_new (o := .tup [.int (k : Nat), .int l[k]]) nT)) (Nat.lt_of_le_of_lt kept_len (by rw [List.length_range]; exact hz)) (ht _ hk' _ _ w2) (he _ hk' _ _ w2)
    rw [← kept_step ek] at z
    exact z
  · rw [len, List.take_of_length_le (by rw [List.length_range]; exact Nat.le_refl _)] at c
    obtain ⟨c1, c2, acc, c3, c4⟩ := c
    exact q' Dl H' (e2.free c1) (e2.trans c2) ⟨rfl, acc, c3, c4⟩
end Pt
namespace Pt
open PySem PySem.Spec PyProof.Rows L2
def met (m : Nat) : Nat → Nat
  | 0 => 1
  | n + 1 => met m n ||| 2 ^ lcgN m (n + 1)
theorem met_bit (m j : Nat) : ∀ n, (met m n).testBit j = true → ∃ b, b ≤ n ∧ lcgN m b = j
  | 0, h => by
    have h' : (2 ^ 0 : Nat).testBit j = true := h
    rw [Nat.testBit_two_pow, decide_eq_true_eq] at h'
    exact ⟨0, Nat.le_refl _, h'⟩
  | n + 1, h => by
    have h' : (met m n ||| 2 ^ lcgN m (n + 1)).testBit j = true := h
    rw [Nat.testBit_or, Bool.or_eq_true, Nat.testBit_two_pow, decide_eq_true_eq] at h'
    rcases h' with z | z
    · obtain ⟨b, hb, e⟩ := met_bit m j n z
      exact ⟨b, by omega, e⟩
    · exact ⟨n + 1, Nat.le_refl _, z⟩
theorem met_511 : met 511 511 = 2 ^ 512 - 1 := by decide +kernel
theorem back_511 : lcgN 511 512 = 0 := by decide +kernel
theorem on_511 : ∀ c, lcgN 511 (512 + c) = lcgN 511 c
  | 0 => back_511
  | c + 1 => congrArg (fun z => (z * 5 + 1) % 512) (on_511 c)
def Msk (m : Nat) : Prop := m = 7 ∨ m = 31 ∨ m = 127 ∨ m = 511
theorem Msk.top {m : Nat} (h : Msk m) : m ≤ 511 := by rcases h with h | h | h | h <;> omega
theorem Msk.two {m : Nat} (h : Msk m) : m % 2 = 1 := by rcases h with h | h | h | h <;> omega
theorem Msk.round {m : Nat} (h : Msk m) {i j : Nat} (hi : i ≤ m) (hj : j ≤ m) : ∃ c, c ≤ m ∧ lcgI m i c = j := by
  have small : MaskOk m → ∃ c, c ≤ m ∧ lcgI m i c = j := fun z => lcgI_all z hi hj
  rcases h with h | h | h | h
  · exact small (.inl h)
  · exact small (.inr (.inl h))
  · exact small (.inr (.inr h))
  · subst h
    have at' : ∀ z, z ≤ 511 → ∃ b, b ≤ 511 ∧ lcgN 511 b = z := fun z hz => met_bit 511 z 511 (by
      rw [met_511, Nat.testBit_two_pow_sub_one, decide_eq_true_eq]
      omega)
    obtain ⟨x, hx, ex⟩ := at' i hi
    obtain ⟨y, hy, ey⟩ := at' j hj
    by_cases c : x ≤ y
    · refine ⟨y - x, by omega, ?_⟩
      rw [← ex, lcgN_add, Nat.add_sub_cancel' c, ey]
    · refine ⟨512 + y - x, by omega, ?_⟩
      rw [← ex, lcgN_add, Nat.add_sub_cancel' (by omega), on_511, ey]
theorem off_ten (m : Nat) : ∀ n i b, i ≤ m → off m i b n ≤ 10 * n
  | 0, _, _, _ => Nat.le_refl _
  | n + 1, i, b, hi => by
    have z := off_ten m n _ (SetTable.leap m i b).2 (leap_le m i b)
    have y := (runEnd_bd hi).2.2
    show SetTable.runEnd m i - i + 1 + off m (SetTable.leap m i b).1 (SetTable.leap m i b).2 n ≤ _
    omega
theorem hole {m : Nat} (M : Msk m) (h : Int) {occ : Nat → Prop} {j : Nat} (hj : j ≤ m) (free : ¬ occ j) :
    ∃ n K, n < SetTable.turns m ∧ K ≤ off m (SetTable.bits h % (m + 1)) (SetTable.bits h) n ∧ ¬ occ (way m h K) ∧ ∀ c, c < K → occ (way m h c) := by
  obtain ⟨c, hc, e⟩ := M.round (runI_le m (SetTable.bits h) 12) hj
  have e' : way m h (off m (SetTable.bits h % (m + 1)) (SetTable.bits h) (12 + c)) = j := by
    unfold way
    rw [nth_off, itL_run]
    exact (runI_tail (bits_lt h) c).trans e
  obtain ⟨K, h1, h2, h3⟩ := st_least (p := fun q => ¬ occ (way m h q)) _ (by rw [e']; exact free)
  exact ⟨12 + c, K, by unfold SetTable.turns; omega, h1, h2, fun q hq => Classical.byContradiction fun z => h3 q hq z⟩
theorem way_in {m : Nat} (M : Msk m) (h : Int) (c : Nat) : way m h c ≤ m := by
  have i0 : SetTable.bits h % (m + 1) ≤ m := Nat.le_of_lt_succ (Nat.mod_lt _ (Nat.succ_pos _))
  have r := runEnd_bd i0
  have z := nth_in (m := m) c (runAt m (SetTable.bits h % (m + 1)) (SetTable.bits h)) (by unfold runAt; dsimp only; omega)
  exact Nat.le_trans (Nat.le_add_right _ _) z
structure Tab (t : SetTable) (hs : List Int) : Prop where
  asc : Ris t.place.toList
  clean : t.dummies = #[]
  num : t.place.size = hs.length
  msk : Msk t.mask
  within : ∀ x ∈ t.place.toList, x ≤ t.mask
  found : ∀ (i : Nat) (h : Int) (j : Nat), hs[i]? = some h → t.place.toList[i]? = some j → ∃ c, way t.mask h c = j ∧ ∀ b, b < c → way t.mask h b ∈ t.place.toList
theorem Tab.first {t : SetTable} {hs : List Int} (T : Tab t hs) (few : hs.length ≤ t.mask) (h : Int) :
    ∃ K, K < 10 * SetTable.turns t.mask ∧ way t.mask h K ∉ t.place.toList ∧ ∀ c, c < K → way t.mask h c ∈ t.place.toList := by
  obtain ⟨j, j1, j2⟩ := st_missing t.place.toList (t.mask + 1) (by rw [Array.length_toList, T.num]; omega)
  obtain ⟨n, K, n1, k1, k2, k3⟩ := hole T.msk h (occ := fun x => x ∈ t.place.toList) (Nat.le_of_lt_succ j1) j2
  have z := Nat.le_trans k1 (off_ten t.mask n _ (SetTable.bits h) (Nat.le_of_lt_succ (Nat.mod_lt (SetTable.bits h) (Nat.succ_pos t.mask))))
  exact ⟨K, by omega, k2, k3⟩
theorem Tab.ahead {t : SetTable} {hs : List Int} (T : Tab t hs) {h : Int} {K i j : Nat} (free : way t.mask h K ∉ t.place.toList) (hi : hs[i]? = some h) (hj : t.place.toList[i]? = some j) :
    ∃ c, c < K ∧ way t.mask h c = j := by
  obtain ⟨c, e, z⟩ := T.found i h j hi hj
  refine ⟨c, Nat.lt_of_not_le fun y => ?_, e⟩
  rcases Nat.lt_or_eq_of_le y with y | y
  · exact free (z K y)
  · exact free (y ▸ e ▸ List.mem_of_getElem? hj)
theorem Tab.put {t : SetTable} {hs : List Int} (T : Tab t hs) {h : Int} {K p : Nat} (free : way t.mask h K ∉ t.place.toList) (occ : ∀ c, c < K → way t.mask h c ∈ t.place.toList)
    (hp : SetTable.below t.place (way t.mask h K) = p) :
    p ≤ hs.length ∧ Tab (t.put (way t.mask h K)).1 (hs.take p ++ h :: hs.drop p) := by
  subst hp
  have num : t.place.toList.length = hs.length := by rw [Array.length_toList]; exact T.num
  have lp : SetTable.below t.place (way t.mask h K) ≤ t.place.toList.length := by rw [Array.length_toList]; exact (below_cut T.asc _).1
  have lh : SetTable.below t.place (way t.mask h K) ≤ hs.length := num ▸ lp
  have pl := put_place t (way t.mask h K)
  have more : ∀ x, x ∈ t.place.toList → x ∈ (t.put (way t.mask h K)).1.place.toList := fun x hx => pl ▸ mem_ins.2 (.inr hx)
  have keep : ∀ {h' j'}, (∃ c, way t.mask h' c = j' ∧ ∀ b, b < c → way t.mask h' b ∈ t.place.toList) → ∃ c, way t.mask h' c = j' ∧ ∀ b, b < c → way t.mask h' b ∈ (t.put (way t.mask h K)).1.place.toList :=
    fun z => let ⟨c, e, y⟩ := z; ⟨c, e, fun b hb => more _ (y b hb)⟩
  refine ⟨lh, ris_insert T.asc fun e => free (List.mem_of_getElem? (by rw [Array.getElem?_toList]; exact e)), put_dm T.clean _, ?_, T.msk, ?_, ?_⟩
  · rw [← Array.length_toList, pl, len_ins _ lp, len_ins _ lh, num]
  · intro x hx
    rw [pl] at hx
    exact (mem_ins.1 hx).elim (fun e => e ▸ way_in T.msk h K) (T.within x)
  · intro i h' j' e1 e2
    rw [tins_get hs lh] at e1
    rw [pl, tins_get _ lp] at e2
    by_cases c : i < SetTable.below t.place (way t.mask h K)
    · rw [if_pos c] at e1 e2
      exact keep (T.found i h' j' e1 e2)
    · by_cases d : i = SetTable.below t.place (way t.mask h K)
      · rw [if_neg c, if_pos d] at e1 e2
        cases e1
        cases e2
        exact keep ⟨K, rfl, occ⟩
      · rw [if_neg c, if_neg d] at e1 e2
        exact keep (T.found (i - 1) h' j' e1 e2)
theorem own_next {m : Nat} (M : Msk m) {done : List Int} {ow : Array (Option Nat)} (W : Own m done ow) (few : done.length ≤ m) (h : Int) :
    ∃ j, SetTable.layClean.free m ow (SetTable.turns m) (SetTable.bits h % (m + 1)) (SetTable.bits h) = some j ∧ Own m (done ++ [h]) (ow.setIfInBounds j (some done.length)) := by
  obtain ⟨ps, l1, l2⟩ := W.ps
  obtain ⟨j, j1, j2⟩ := st_missing ps (m + 1) (by omega)
  obtain ⟨n, K, n1, k1, k2, k3⟩ := hole M h (occ := fun x => oAt ow x ≠ none) (Nat.le_of_lt_succ j1) fun z => j2 (l2 j (Nat.le_of_lt_succ j1) z)
  have k2' : oAt ow (way m h K) = none := Classical.byContradiction k2
  have hin := way_in M h K
  have here : oAt (ow.setIfInBounds (way m h K) (some done.length)) (way m h K) = some done.length := oAt_set_self _ (by rw [W.sz]; omega)
  have there : ∀ {i}, i ≠ way m h K → oAt (ow.setIfInBounds (way m h K) (some done.length)) i = oAt ow i := fun z => oAt_set_ne _ z
  have still : ∀ {i}, oAt ow i ≠ none → oAt (ow.setIfInBounds (way m h K) (some done.length)) i ≠ none := fun {i} z => by
    rw [there fun e => z (by rw [e]; exact k2')]
    exact z
  refine ⟨way m h K, free_spec m ow _ n _ _ K n1 k1 (fun c hc => ?_) ?_, ?_, ?_, ?_, way m h K :: ps, ?_, ?_⟩
  · exact Bool.eq_false_iff.mpr fun z => k3 c hc (Option.isNone_iff_eq_none.mp z)
  · exact Option.isNone_iff_eq_none.mpr k2'
  · rw [Array.size_setIfInBounds, W.sz]
  · intro i q hi e
    by_cases c : i = way m h K
    · subst c
      rw [here] at e
      cases e
      exact ⟨h, K, by simp, rfl, fun b hb => still (k3 b hb)⟩
    · rw [there c] at e
      obtain ⟨h', K', a1, a2, a3⟩ := W.at_ i q hi e
      have lt : q < done.length := (List.getElem?_eq_some_iff.mp a1).1
      exact ⟨h', K', by rw [List.getElem?_append_left lt]; exact a1, a2, fun b hb => still (a3 b hb)⟩
  · intro q hq
    by_cases c : q < done.length
    · obtain ⟨i, hi, e⟩ := W.all q c
      exact ⟨i, hi, by rw [there fun z => by rw [z, k2'] at e; cases e]; exact e⟩
    · have z : q = done.length := by simp at hq; omega
      exact ⟨way m h K, hin, z ▸ here⟩
  · simp [l1]
  · intro i hi e
    by_cases c : i = way m h K
    · exact c ▸ List.mem_cons_self
    · rw [there c] at e
      exact List.mem_cons_of_mem _ (l2 i hi e)
theorem own_all {m : Nat} (M : Msk m) : ∀ (rest done : List Int) (ow : Array (Option Nat)), Own m done ow → (done ++ rest).length ≤ m →
    ∃ ow', rest.foldl (stepF m) (some (ow, done.length)) = some (ow', (done ++ rest).length) ∧ Own m (done ++ rest) ow'
  | [], done, ow, W, _ => ⟨ow, by simp, by simpa using W⟩
  | h :: rest, done, ow, W, few => by
    have few' : done.length + (rest.length + 1) ≤ m := by simpa using few
    obtain ⟨j, e, W'⟩ := own_next M W (by omega) h
    obtain ⟨ow', e', W2⟩ := own_all M rest (done ++ [h]) _ W' (by simp; omega)
    refine ⟨ow', ?_, by simpa using W2⟩
    rw [List.foldl_cons]; rw [stepF_some e]; simpa using e'
theorem relaid_tab (t : SetTable) {hs : Array Int} {wanted m : Nat} (e : SetTable.sizeAbove wanted - 1 = m) (M : Msk m) (few : hs.size ≤ m) :
    ∃ t' ord, t.relaid hs wanted = some (t', ord) ∧ ord.toList.Perm (List.range hs.size) ∧ Tab t' (ord.toList.map fun i => hs.getD i 0) ∧ t'.mask = m ∧ t'.led = t.led ∧ t'.plain = t.plain := by
  obtain ⟨ow, f, W⟩ := own_all M hs.toList [] _ (Own.init m) (by simpa using few)
  have f' : SetTable.layClean m hs = some ow := by
    rw [layClean_eq]
    exact congrArg (Option.map (·.1)) f
  have W' : Own m hs.toList ow := W
  have lv : ∀ {j q}, (j, q) ∈ liveOf m ow ↔ j ≤ m ∧ oAt ow j = some q := mem_live W'.sz
  have asc : Ris ((liveOf m ow).map (·.1)) ∧ ∀ x ∈ (liveOf m ow).map (·.1), x ∈ List.range (m + 1) := ris_live (fun j => ow.getD j none) (List.range (m + 1)) List.pairwise_lt_range
  have len : (liveOf m ow).length = hs.size := by
    obtain ⟨ps, p1, p2⟩ := W'.ps
    have nd : ((liveOf m ow).map (·.1)).Nodup := by
      have z := asc.1
      unfold Ris at z
      exact z.imp fun y => Nat.ne_of_lt y
    have le1 := nat_nodup_len ((liveOf m ow).map (·.1)) ps nd fun x hx => by
      obtain ⟨⟨y, q⟩, hy, rfl⟩ := List.mem_map.mp hx
      exact p2 y (lv.1 hy).1 (by rw [(lv.1 hy).2]; simp)
    have le2 := nat_nodup_len (List.range hs.size) ((liveOf m ow).map (·.2)) List.nodup_range fun q hq => by
      obtain ⟨j, b1, b2⟩ := W'.all q (by simpa using hq)
      exact List.mem_map.mpr ⟨(j, q), lv.2 ⟨b1, b2⟩, rfl⟩
    rw [List.length_map] at le1 le2
    have sz : hs.toList.length = hs.size := rfl
    rw [p1, sz] at le1
    rw [List.length_range] at le2
    omega
  refine ⟨tabOf t m ow, ((liveOf m ow).map (·.2)).toArray, ?_, ?_, ⟨asc.1, rfl, ?_, M, ?_, ?_⟩, rfl, rfl, rfl⟩
  · rw [relaid_eq, e, f']
    rfl
  · refine perm_range _ _ (by simpa using len) fun q hq => ?_
    obtain ⟨j, b1, b2⟩ := W'.all q (by simpa using hq)
    exact List.mem_map.mpr ⟨(j, q), lv.2 ⟨b1, b2⟩, rfl⟩
  · simp [tabOf]
  · intro x hx
    exact Nat.le_of_lt_succ (List.mem_range.mp (asc.2 x hx))
  · intro i h j e1 e2
    have e1' : ((liveOf m ow)[i]?.map (·.2)).map (fun i => hs.getD i 0) = some h := by simpa using e1
    have e2' : (liveOf m ow)[i]?.map (·.1) = some j := by simpa [tabOf] using e2
    cases z : (liveOf m ow)[i]? with
    | none => rw [z] at e2'; cases e2'
    | some y =>
      obtain ⟨y, q⟩ := y
      rw [z] at e1' e2'
      cases e2'
      cases e1'
      have me := lv.1 (List.mem_of_getElem? z)
      obtain ⟨h0, K, a1, a2, a3⟩ := W'.at_ y q me.1 me.2
      have eh : hs.getD q 0 = h0 := by
        rw [Array.getElem?_toList] at a1
        simp [Array.getD_eq_getD_getElem?, a1]
      refine ⟨K, by show way m (hs.getD q 0) K = y; rw [eh]; exact a2, fun b hb => ?_⟩
      show way m (hs.getD q 0) b ∈ (liveOf m ow).map (·.1)
      rw [eh]
      cases u : oAt ow (way m h0 b) with
      | none => exact absurd u (a3 b hb)
      | some v => exact List.mem_map.mpr ⟨(way m h0 b, v), lv.2 ⟨way_in M h0 b, u⟩, rfl⟩
theorem above_5 : SetTable.sizeAbove (SetTable.grown 5) = 32 := by decide +kernel
theorem above_19 : SetTable.sizeAbove (SetTable.grown 19) = 128 := by decide +kernel
theorem above_77 : SetTable.sizeAbove (SetTable.grown 77) = 512 := by decide +kernel
end Pt
namespace Pt
open PySem PySem.Spec PyProof.Rows L2
def pb (m : Nat) (H : Int) (c : Nat) : SetTable.Probe := nth m (runAt m (SetTable.bits H % (m + 1)) (SetTable.bits H)) c
theorem pb_add (m : Nat) (H : Int) (c d : Nat) : nth m (pb m H c) d = pb m H (c + d) := (nth_add m c _ d).symm
theorem pb_clean (m : Nat) (H : Int) : ∀ c, (pb m H c).dummy = none
  | 0 => rfl
  | c + 1 => by
    have z := pb_clean m H c
    rw [show pb m H (c + 1) = adv m (pb m H c) from nth_succ m _ c]
    unfold adv
    split
    · exact z
    · exact z
section
variable {P : Program} {w : World} {A : Around} {E : Value → Shared → Prop} {s : Shared} {a : Addr} {L : List (Addr × List Int)} {es : Array (Int × Value)} {ep : Nat} {t : SetTable}
structure SX (P : Program) (w : World) (h : Heap) (a : Addr) (L : List (Addr × List Int)) (es : Array (Int × Value)) (ep : Nat) (t : SetTable) : Prop where
  at_ : ∃ o, h.get? a = some o ∧ o.ExactSet ∧ o.data = .set es ep t
  all : es.toList = rowsOf P w L
  tab : Tab t (L.map fun y => thash P w y.2)
  one : (L.map (·.2)).Nodup
  rows : ∀ y ∈ L, IsT P w h y.2 y.1
  pln : t.plain = true
  seen : w.params.followText "set-order" = true ∨ t.led = true
  free : L.length * 5 < t.mask * 3
theorem rowsOf_len : (rowsOf P w L).length = L.length := List.length_map _
theorem SX.num {h : Heap} (R : SX P w h a L es ep t) : es.size = L.length := by
  rw [← Array.length_toList, R.all, rowsOf_len]
theorem fits_of {n : Nat} (h1 : t.place.size = n) (h2 : t.dummies = #[]) (h3 : n ≤ t.mask) : t.fits n = true := by
  simp [SetTable.fits, SetTable.fill, h1, h2, h3]
theorem SX.fit {h : Heap} (R : SX P w h a L es ep t) : t.fits es.size = true := by
  have f := R.free
  refine fits_of ?_ R.tab.clean (by rw [R.num]; omega)
  rw [R.tab.num, R.num, List.length_map]
theorem row_at {es : Array (Int × Value)} {L : List (Addr × List Int)} (h : es.toList = rowsOf P w L) {i : Nat} {y : Addr × List Int} (hy : L[i]? = some y) : es[i]? = some (thash P w y.2, Value.ref y.1) := by
  have z : es.toList[i]? = some (thash P w y.2, Value.ref y.1) := by
    rw [h]
    simp [rowsOf, hy]
  rwa [Array.getElem?_toList] at z
theorem SX.stay (R : SX P w s.heap a L es ep t) : ¬ t.gaveWay = true := by
  simp [SetTable.gaveWay, R.tab.msk.two]
theorem seek (R : SX P w s.heap a L es ep t) {x : Addr} {k : List Int} {H : Int} (hx : IsT P w s.heap k x) (eH : thash P w k = H) (hu : A.units < cLine) {K : Nat}
    (b1 : K < 10 * SetTable.turns t.mask) (b2 : way t.mask H K ∉ t.place.toList) (b3 : ∀ c, c < K → way t.mask H c ∈ t.place.toList) {Q : SetFound → Shared → Prop}
    (yes : k ∈ L.map (·.2) → Q (.there none) s) (no : k ∉ L.map (·.2) → Q (.free (way t.mask H K) false) s) :
    ∀ (f c : Nat) (stand : Option SetTable.Probe), stand.getD (t.probeStart H) = pb t.mask H c → c ≤ K → K - c < f →
      (∀ (i : Nat) y, L[i]? = some y → y.2 = k → ∃ d, c ≤ d ∧ d < K ∧ t.place.toList[i]? = some (way t.mask H d)) → wpAny (model P w) A (setSearchFrom a (.ref x) H true f stand) Q E s := by
  intro f
  induction f with
  | zero => exact fun c _ _ _ z => absurd z (Nat.not_lt_zero _)
  | succ f ih =>
    intro c stand e le lt ahead
    obtain ⟨o, ho, -, hd⟩ := R.at_
    have hash : ∀ (i : Nat) y, L[i]? = some y → y.2 = k → (es[i]?.map (·.1)).getD 0 = H := fun i y hy z => by
      rw [row_at R.all hy, ← eH, ← z]
      rfl
    have sp := go_spec t R.tab.asc R.tab.clean (fun i => (es[i]?.map (·.1)).getD 0) H (10 * SetTable.turns t.mask) (K - c) (pb t.mask H c) (pb_clean _ _ _) (by omega)
      (fun d hd => by rw [pb_add]; exact b3 _ (by omega)) (by rw [pb_add, Nat.add_sub_cancel' le]; exact b2)
    simp only [pb_add] at sp
    rw [setSearchFrom_succ]
    refine wpAny_bind (wpAny_setState_of ho hd R.fit (wp_if_neg R.stay ?_))
    (try refine wpAny_bind (wpAny_pure ?_))
    rcases sp with ⟨d, i, d1, d2, d3, d4, d5⟩ | ⟨d1, d2⟩
    · rw [show t.probe (fun i => (es[i]?.map (·.1)).getD 0) H (stand.getD (t.probeStart H)) = some (.candidate (pb t.mask H (c + d)).j i (pb t.mask H (c + (d + 1)))) by rw [e]; exact d5]
      obtain ⟨y, hy⟩ : ∃ y, L[i]? = some y := by
        have z := (List.getElem?_eq_some_iff.mp d2).1
        rw [Array.length_toList, R.tab.num, List.length_map] at z
        exact ⟨_, List.getElem?_eq_getElem z⟩
      have hyL := List.mem_of_getElem? hy
      have rest : wpAny (model P w) A (searchRest a (.ref x) H true f es t (pb t.mask H (c + d)).j i (pb t.mask H (c + (d + 1)))) Q E s := by
        unfold searchRest
        rw [row_at R.all hy]
        refine wpAny_bind (wpAny_holding (wpAny_eqBool_tuple hu (R.rows y hyL) hx ?_))
        refine wpAny_bind (wpAny_setState_of ho hd R.fit ?_)
        by_cases c1 : y.2 = k
        · exact wp_if_pos (by simp [c1]) (wpAny_pure (yes (List.mem_map.mpr ⟨y, hyL, c1⟩)))
        · refine wp_if_neg (by simp [c1]) ?_
          (try refine wpAny_bind (wpAny_pure ?_))
          have sl : t.slot (pb t.mask H (c + d)).j = .live i := slot_live R.tab.asc d2
          rw [sameMem]
          dsimp only
          simp only [if_true, sl, row_at R.all hy]
          refine wpAny_bind (wpAny_isSame_ref_self (wpAny_bind (wpAny_pure ?_))); simp only [if_true]
          refine wp_if_neg (by simp [c1]) (ih (c + (d + 1)) _ rfl (by omega) (by omega) fun i' y' hy' ey' => ?_)
          obtain ⟨u, u1, u2, u3⟩ := ahead i' y' hy' ey'
          refine ⟨u, (show c + d < u from Nat.lt_of_not_le fun z => ?_), u2, u3⟩
          rcases Nat.lt_or_eq_of_le z with z | z
          · exact d4 (u - c) i' (by omega) (by rw [Nat.add_sub_cancel' u1]; exact u3) (hash i' y' hy' ey')
          · subst z
            have s2 := slot_live R.tab.asc u3
            rw [show way t.mask H (c + d) = (pb t.mask H (c + d)).j from rfl, sl] at s2
            cases s2
            rw [hy] at hy'
            cases hy'
            exact c1 ey'
      by_cases hl : t.led = true
      · refine wp_if_neg (by simp [hl]) ?_; (try refine wpAny_bind (wpAny_pure ?_))
        exact rest
      · refine wp_if_pos (by simp [hl]) (wpAny_bind (seen_tup hx (fun v hv => ?_) (wp_if_neg (by decide) ?_)))
        · obtain ⟨q, hq, rfl⟩ := List.mem_map.mp hv
          have hq' : q ∈ es.toList := by
            have z : q ∈ es ∧ q.1 = H := by simpa using hq
            simpa using z.1
          rw [R.all] at hq'
          obtain ⟨y', hy', rfl⟩ := List.mem_map.mp hq'
          exact ⟨y'.2, y'.1, rfl, R.rows y' hy'⟩
        · (try refine wpAny_bind (wpAny_pure ?_))
          exact rest
    · rw [show t.probe (fun i => (es[i]?.map (·.1)).getD 0) H (stand.getD (t.probeStart H)) = some (.empty (pb t.mask H (c + (K - c))).j none) by rw [e]; exact d2]
      rw [Nat.add_sub_cancel' le]
      refine wpAny_pure (no fun hm => ?_)
      obtain ⟨y, hy, ey⟩ := List.mem_map.mp hm
      obtain ⟨i, hi, rfl⟩ := List.getElem_of_mem hy
      obtain ⟨u, u1, u2, u3⟩ := ahead i _ (List.getElem?_eq_getElem hi) ey
      exact d1 (u - c) i (by omega) (by rw [Nat.add_sub_cancel' u1]; exact u3) (hash i _ (List.getElem?_eq_getElem hi) ey)
theorem seekA (R : SX P w s.heap a L es ep t) {x : Addr} {k : List Int} {H : Int} (hx : IsT P w s.heap k x) (eH : thash P w k = H) (hu : A.units < cLine) {Q : SetFound → Shared → Prop}
    (yes : k ∈ L.map (·.2) → Q (.there none) s)
    (no : ∀ K, k ∉ L.map (·.2) → way t.mask H K ∉ t.place.toList → (∀ c, c < K → way t.mask H c ∈ t.place.toList) → Q (.free (way t.mask H K) false) s) :
    wpAny (model P w) A (setSearch a (.ref x) H true) Q E s := by
  have f := R.free
  have top := R.tab.msk.top
  obtain ⟨K, b1, b2, b3⟩ := R.tab.first (by rw [List.length_map]; omega) H
  have b4 : K < 100000 := by unfold SetTable.turns at b1; omega
  unfold setSearch
  refine seek R hx eH hu b1 b2 b3 yes (fun z => no K z b2 b3) 100000 0 none rfl (Nat.zero_le _) (by omega) fun i y hy ey => ?_
  have hi : (L.map fun y => thash P w y.2)[i]? = some H := by
    rw [List.getElem?_map, hy, ← eH, ← ey]
    rfl
  have lt : i < t.place.toList.length := by
    have z := (List.getElem?_eq_some_iff.mp hy).1
    rw [Array.length_toList, R.tab.num, List.length_map]
    exact z
  obtain ⟨c, c1, c2⟩ := R.tab.ahead b2 hi (List.getElem?_eq_getElem lt)
  exact ⟨c, Nat.zero_le _, c1, by rw [c2]; exact List.getElem?_eq_getElem lt⟩
end
end Pt
namespace Pt
open PySem PySem.Spec PyProof.Rows L2
section
variable {P : Program} {w : World} {A : Around} {E : Value → Shared → Prop} {s : Shared} {a : Addr} {L : List (Addr × List Int)} {es : Array (Int × Value)} {ep : Nat} {t : SetTable}
theorem relayX {o : Obj} (ho : s.heap.get? a = some o) (hex : o.ExactSet) (hd : o.data = .set es ep t) (all : es.toList = rowsOf P w L) (num : t.place.size = es.size) (clean : t.dummies = #[]) (few : es.size ≤ t.mask)
    (one : (L.map (·.2)).Nodup) (rows : ∀ y ∈ L, IsT P w s.heap y.2 y.1) (pln : t.plain = true) (seen : w.params.followText "set-order" = true ∨ t.led = true) {n m : Nat}
    (e : SetTable.sizeAbove n = m + 1) (M : Msk m) (free : L.length * 5 < m * 3) {Q : Unit → Shared → Prop}
    (q : ∀ h' L' es' ep' t', Heap.SameBut a s.heap h' → SX P w h' a L' es' ep' t' → L'.Perm L → Q () { s with heap := h' }) : wpAny (model P w) A (setRelay a n) Q E s := by
  have len : es.size = L.length := by rw [← Array.length_toList, all, rowsOf_len]
  have top := M.top
  obtain ⟨t', ord, e1, e2, T, e3, e4, e5⟩ := relaid_tab t (hs := es.map (·.1)) (wanted := n) (m := m) (by omega) M (by rw [Array.size_map]; omega)
  rw [Array.size_map, len] at e2
  obtain ⟨L', f1, f2, f3⟩ := order_rows L es ord all e2
  have len' : (ord.filterMap (es[·]?)).size = L.length := by rw [← Array.length_toList, f1, rowsOf_len, f2.length_eq]
  rw [setRelay_eq]
  refine wpAny_bind (wpAny_setState_of ho hd (fits_of num clean few) (wp_if_neg (by rw [sizeLine_eq]; omega) ?_))
  (try refine wpAny_bind (wpAny_pure ?_))
  rw [e1]
  refine wpAny_bind (wp_if_neg (by rw [len', len]; simp) ?_)
  (try refine wpAny_bind (wpAny_pure ?_))
  refine wpAny_pure (wpAny_storeSet_of ho hd ?_ (by rw [len', sizeLine_eq]; omega))
  have but : Heap.SameBut a s.heap (s.heap.update a (Obj.putSet (ord.filterMap (es[·]?)) t')) := Heap.SameBut.update ..
  refine q _ L' _ (ep + 1) t' but ⟨⟨_, store_at ho hd, hex, rfl⟩, f1, f3 ▸ T, (f2.map (·.2)).nodup_iff.mpr one, fun y hy => isT_same (rows y (f2.mem_iff.mp hy)) ho hd but, e5.trans pln, seen.imp id e4.trans, ?_⟩ f2
  rw [f2.length_eq, e3]
  exact free
theorem addX (R : SX P w s.heap a L es ep t) {x : Addr} {k : List Int} (hx : IsT P w s.heap k x) (hu : A.units < cLine) (few : L.length < 250) {Q : Bool → Shared → Prop}
    (q : ∀ b h' L' es' ep' t', Heap.SameBut a s.heap h' → SX P w h' a L' es' ep' t' → (k ∈ L.map (·.2) → L' = L) → (k ∉ L.map (·.2) → L'.Perm ((x, k) :: L)) → Q b { s with heap := h' }) :
    wpAny (model P w) A (setAddHashed a (Value.ref x) (thash P w k)) Q E s := by
  obtain ⟨o, ho, hex, hd⟩ := R.at_
  obtain ⟨H, eH⟩ : ∃ H, thash P w k = H := ⟨_, rfl⟩
  have len := R.num
  have fr := R.free
  have top := R.tab.msk.top
  rw [eH]
  unfold setAddHashed
  refine wpAny_holding ?_
  rw [show setAddHashedIn a (.ref x) H 100000 = setAddHashedIn a (.ref x) H (99999 + 1) from rfl, setAddHashedIn_succ]
  refine wpAny_bind (wpAny_setState_of ho hd R.fit (wp_if_neg (by simp [byScan, Value.scannable]) ?_))
  (try refine wpAny_bind (wpAny_pure ?_))
  refine wpAny_bind (seekA R hx eH hu (fun hm => wpAny_pure (q false _ L es ep t (Heap.SameBut.refl a _) R (fun _ => rfl) fun z => absurd hm z)) fun K nw b2 b3 => ?_)
  refine wpAny_bind (wpAny_setState_of ho hd R.fit ?_)
  dsimp only
  obtain ⟨p, hp⟩ : ∃ p, SetTable.below t.place (way t.mask H K) = p := ⟨_, rfl⟩
  obtain ⟨lp, T⟩ := R.tab.put b2 b3 hp
  have e2 : (t.put (way t.mask H K)).2 = p := hp
  have e3 : (t.put (way t.mask H K)).1.mask = t.mask := rfl
  have e4 : (t.put (way t.mask H K)).1.led = t.led := rfl
  have e5 : (t.put (way t.mask H K)).1.plain = true := R.pln
  generalize t.put (way t.mask H K) = tp at T e2 e3 e4 e5 ⊢
  obtain ⟨t1, p1⟩ := tp
  dsimp only at T e2 e3 e4 e5 ⊢
  subst e2
  first
    | refine wpAny_bind (wp_if_pos e5 (hashBy_tup hx ?_))
    | refine wp_if_pos e5 (wpAny_bind (hashBy_tup hx ?_))
  simp only [if_true]
  have pm : (L.take p1 ++ (x, k) :: L.drop p1).Perm ((x, k) :: L) := put_perm L p1 (x, k)
  have all1 : (SetTable.insertAt es p1 (H, Value.ref x)).toList = rowsOf P w (L.take p1 ++ (x, k) :: L.drop p1) := by rw [SetTable.toList_insertAt, rows_put, R.all, eH]
  have T1 : Tab t1 ((L.take p1 ++ (x, k) :: L.drop p1).map fun y => thash P w y.2) := by
    rw [List.map_append, List.map_cons, List.map_take, List.map_drop, eH]
    exact T
  generalize SetTable.insertAt es p1 (H, Value.ref x) = es1 at all1 ⊢
  generalize L.take p1 ++ (x, k) :: L.drop p1 = L1 at pm all1 T1
  have len1 : L1.length = L.length + 1 := pm.length_eq
  have esz : es1.size = L.length + 1 := by rw [← Array.length_toList, all1, rowsOf_len, len1]
  have num1 : t1.place.size = es1.size := by rw [T1.num, List.length_map, len1, esz]
  have fill1 : t1.fill = L.length + 1 := by
    unfold SetTable.fill
    rw [num1, esz, T1.clean]
    rfl
  have one1 : (L1.map (·.2)).Nodup := (pm.map (·.2)).nodup_iff.mpr (List.nodup_cons.mpr ⟨nw, R.one⟩)
  refine wpAny_bind (wpAny_storeSet_of ho hd ?_ (by rw [esz, sizeLine_eq]; omega))
  have but : Heap.SameBut a s.heap (s.heap.update a (Obj.putSet es1 t1)) := Heap.SameBut.update ..
  have ho1 := store_at (t' := t1) (es' := es1) ho hd
  generalize s.heap.update a (Obj.putSet es1 t1) = h1 at but ho1 ⊢
  have rows1 : ∀ y ∈ L1, IsT P w h1 y.2 y.1 := fun y hy => by
    rcases List.mem_cons.mp (pm.mem_iff.mp hy) with z | z
    · exact z ▸ isT_same hx ho hd but
    · exact isT_same (R.rows y z) ho hd but
  have seen1 : w.params.followText "set-order" = true ∨ t1.led = true := e4 ▸ R.seen
  have full : t1.tooFull = true ↔ (L.length + 1) * 5 ≥ t.mask * 3 := by
    unfold SetTable.tooFull
    rw [decide_eq_true_eq, fill1, e3]
  by_cases fu : t1.tooFull = true
  · first
      | refine wpAny_bind (wp_if_pos (by simp [fu]) ?_)
      | refine wp_if_pos (by simp [fu]) (wpAny_bind ?_)
    have hf' := full.mp fu
    obtain ⟨m, m1, m2, m3⟩ : ∃ m, SetTable.sizeAbove (SetTable.grown (L.length + 1)) = m + 1 ∧ Msk m ∧ (L.length + 1) * 5 < m * 3 := by
      rcases R.tab.msk with z | z | z | z
      · exact ⟨31, by rw [show L.length + 1 = 5 by omega]; exact above_5, .inr (.inl rfl), by omega⟩
      · exact ⟨127, by rw [show L.length + 1 = 19 by omega]; exact above_19, .inr (.inr (.inl rfl)), by omega⟩
      · exact ⟨511, by rw [show L.length + 1 = 77 by omega]; exact above_77, .inr (.inr (.inr rfl)), by omega⟩
      · omega
    rw [len]
    refine relayX (s := { s with heap := h1 }) ho1 hex rfl all1 num1 T1.clean (by rw [esz, e3]; omega) one1 rows1 e5 seen1 m1 m2 (by rw [len1]; exact m3) fun h2 L2 es2 ep2 t2 but2 R2 pm2 => ?_
    exact wpAny_pure (q true h2 L2 es2 ep2 t2 (but.trans but2) R2 (fun z => absurd z nw) fun _ => pm2.trans pm)
  · first
      | refine wp_if_neg (by simp [fu]) ?_
      | refine wpAny_bind (wp_if_neg (by simp [fu]) (wpAny_pure ?_))
    have hf' : ¬ (L.length + 1) * 5 ≥ t.mask * 3 := fun z => fu (full.mpr z)
    exact wpAny_pure (q true h1 L1 es1 (ep + 1) t1 but ⟨⟨_, ho1, hex, rfl⟩, all1, T1, one1, rows1, e5, seen1, by rw [len1, e3]; omega⟩ (fun z => absurd z nw) fun _ => pm)
theorem SX.at_heap {h h' : Heap} (R : SX P w h a L es ep t) (e : ∀ o, h.get? a = some o → h'.get? a = some o) (r : ∀ y ∈ L, IsT P w h' y.2 y.1) : SX P w h' a L es ep t :=
  let ⟨o, ho, z⟩ := R.at_
  ⟨⟨o, e o ho, z⟩, R.all, R.tab, R.one, r, R.pln, R.seen, R.free⟩
theorem freshX {h : Heap} (ho : h.get? a = some { cls := .type "set", dict := none, data := .set #[] 0 (.fresh 0 0 (!w.params.followText "set-order")) }) :
    SX P w h a [] #[] 0 (.fresh 0 0 (!w.params.followText "set-order")) := by
  refine ⟨⟨_, ho, ⟨rfl, rfl, rfl⟩, rfl⟩, rfl, ⟨List.Pairwise.nil, rfl, rfl, .inl rfl, fun x z => (nomatch z), fun i _ _ z => ?_⟩, List.nodup_nil, fun y z => (nomatch z), rfl, ?_, (by decide : 0 * 5 < 7 * 3)⟩
  · simp at z
  · cases z : w.params.followText "set-order"
    · exact .inr rfl
    · exact .inl rfl
theorem loopX {I : Addr} {fp wr : List Addr} {G : Array GenState → Array GenState → Prop} {n : Nat} {Pv : Nat → Value → Prop} {St : Nat → Shared → Prop} {R : Result → Shared → Prop}
    (W : WalksS P w A.in1 I fp wr G n Pv St) (S : Addr) (nS : S ∉ fp) (ks : List (Addr × List Int)) (en : n = ks.length) (few : ks.length ≤ 250) (val : ∀ i v, Pv i v → ∃ y, ks[i]? = some y ∧ v = .ref y.1)
    (h0 : Heap) (rows : ∀ y ∈ ks, IsT P w h0 y.2 y.1) (S0 : h0.get? S = none) (w0 : ∀ b ∈ wr, h0.get? b = none) (hu : A.in1.units < cLine) :
    ∀ (c i : Nat) (s : Shared), i + c = n → St i s → (∀ b o, h0.get? b = some o → s.heap.get? b = some o) → (∃ L es ep t, SX P w s.heap S L es ep t ∧ Got ks i L) →
      (∀ s' L es ep t, Moved (S :: wr) G s s' → SX P w s'.heap S L es ep t → Got ks n L → (∀ b o, h0.get? b = some o → s'.heap.get? b = some o) → R (.ok (.ret .none)) s') →
      codeAny (model P w) A (.builtin "set.update.loop" { pos := [.ref S, .ref I] }) R s := by
  have Sw : S ∉ wr := fun z => nS (W.sub _ z)
  have wS : ∀ b ∈ wr, b ∈ S :: wr := fun b z => List.mem_cons_of_mem _ z
  have old : ∀ {s s' : Shared}, Moved wr G s s' → (∀ b o, h0.get? b = some o → s.heap.get? b = some o) → ∀ b o, h0.get? b = some o → s'.heap.get? b = some o := fun mv z b o e =>
    mv.heap b o (fun y => by rw [w0 b y] at e; cases e) (z b o e)
  have part : ∀ {i : Nat} {L}, Got ks i L → ∀ y ∈ L, y ∈ ks := fun g y hy => List.mem_of_mem_take (g.sub y hy)
  intro c
  induction c with
  | zero =>
    rintro i s rfl st keep ⟨L, es, ep, t, X, g⟩ q
    refine codeAny_builtin F.entry_set_update_loop ?_; rw [Around.under_plainId F.plain_set_update_loop _]
    refine (?_ : wpAny _ A.in1 (pyNext (.ref I) >>= _) _ _ s)
    refine wpAny_bind (W.done s _ _ st fun s' mv => ?_)
    have keep' := old mv keep
    exact wpAny_pure (q s' L es ep t (mv.mono wS) (X.at_heap (fun o e => mv.heap S o Sw e) fun y hy => isT_keep (rows y (part g y hy)) keep') g keep')
  | succ c ih =>
    rintro i s e st keep ⟨L, es, ep, t, X, g⟩ q
    refine codeAny_builtin F.entry_set_update_loop ?_; rw [Around.under_plainId F.plain_set_update_loop _]
    refine (?_ : wpAny _ A.in1 (pyNext (.ref I) >>= _) _ _ s)
    refine wpAny_bind (W.item i s _ _ (by omega) st fun v s' pv st' mv => ?_)
    obtain ⟨y, hy, rfl⟩ := val i v pv
    have keep' := old mv keep
    have X' : SX P w s'.heap S L es ep t := X.at_heap (fun o e => mv.heap S o Sw e) fun y hy => isT_keep (rows y (part g y hy)) keep'
    have hx : IsT P w s'.heap y.2 y.1 := isT_keep (rows y (List.mem_of_getElem? hy)) keep'
    refine (?_ : wpAny _ A.in1 (holding [Value.ref y.1] (setAdd S (.ref y.1)) >>= _) _ _ s')
    refine wpAny_bind (wpAny_holding ?_); unfold setAdd
    have gl := g.len
    refine wpAny_holding (wpAny_bind (wpAny_pyHash_tuple hu hx (addX (s := { s' with toks := s'.toks + (y.2.length + 1) }) X' hx hu (by omega) fun b h' L' es' ep' t' but X2 c1 c2 => ?_)))
    have g2 : Got ks (i + 1) L' := by
      by_cases z : y.2 ∈ L.map (·.2)
      · exact c1 z ▸ g.same hy z
      · exact g.more hy (c2 z)
    have keep2 : ∀ b o, h0.get? b = some o → h'.get? b = some o := fun b o e => (but.2 b fun z => by rw [z, S0] at e; cases e).trans (keep' b o e)
    refine wpAny_pure ⟨plainId_quiet F.plain_set_update_loop _, ih (i + 1) _ (by omega) (W.frame _ s' _ _ st' (Nat.le_add_right _ _) fun b hb o e => ?_) keep2 ⟨L', es', ep', t', X2, g2⟩ fun s2 L2 es2 ep2 t2 mv2 X3 g3 keep3 => ?_⟩
    · exact (but.2 b fun z => nS (z ▸ hb)).trans e
    · exact q s2 L2 es2 ep2 t2 (Moved.trans W.gtrans ((mv.mono wS).then_heap (Nat.le_add_right _ _) fun b o hb e => (but.2 b fun z => hb (z ▸ List.mem_cons_self)).trans e) mv2) X3 g3 keep3
end
end Pt
namespace Pt
open PySem PySem.Spec PyProof.Rows L2
abbrev newS (b : Bool) : Obj := { cls := .type "set", dict := none, data := .set #[] 0 (.fresh 0 0 b) }
section
variable {P : Program} {w : World} {A : Around} {s : Shared} {E : Value → Shared → Prop}
set_option maxHeartbeats 4100000 in
theorem callX {l : Addr} {items : Array Value} (ks : List (Addr × List Int)) {Q : Value → Shared → Prop} (calm : A.handled = none) (hl : s.heap.IsList l items) (hit : items.toList = ks.map fun y => Value.ref y.1)
    (rows : ∀ y ∈ ks, IsT P w s.heap y.2 y.1) (few : ks.length ≤ 250) (hu : A.units + 3 < cLine)
    (q : ∀ (h' : Heap) (tk : Nat) L es ep t, SX P w h' s.heap.objs.size L es ep t → Got ks ks.length L → (∀ b o, s.heap.get? b = some o → h'.get? b = some o) → Q (.ref s.heap.objs.size) { s with heap := h', toks := tk }) :
    wpAny (model P w) A (call (.type "set") [Value.ref l]) Q E s := by
  obtain ⟨led, eled⟩ : ∃ b, (!w.params.followText "set-order") = b := ⟨_, rfl⟩
  have num : items.size = ks.length := by rw [← Array.length_toList, hit, List.length_map]
  obtain ⟨c0, tl0, r0⟩ := F.called_set.mro
  have r1 := F.called_set.made
  have r2 := F.called_set.sub
  refine wpAny_call (codeAny_of_tree (?_ : wpAny _ _ (callAny (.type "set") _) _ _ _))
  refine wpAny_pure ⟨Code.quiet_builtin _ (by decide +kernel), codeAny_builtin F.entry_type_call ?_⟩; rw [Around.under_plain (weight_type_call_type "set" [.ref l] []) rfl]
  have r3 := F.called_set.notType
  have r4 := F.called_set.canCreate
  have r5 := F.typeCall_set_1 (.ref l)
  repeat any_goals first | assumption | wp_step
  refine codeAny_mono (code_set_led1 (.ref l) (E := E) (Q₁ := fun v s1 => v = .ref s.heap.objs.size ∧ s1 = { s with heap := s.heap.push (newS led) }) ⟨rfl, by rw [← eled]⟩) fun r s1 hr => ?_
  rcases r with e | fl
  · exact hr
  cases fl with
  | ret v =>
    obtain ⟨rfl, rfl⟩ := hr
    have get0 : (s.heap.push (newS led)).get? s.heap.objs.size = some (newS led) := Heap.get?_push_size _ rfl
    have ty0 : Shared.TypeIs { s with heap := s.heap.push (newS led) } (.ref s.heap.objs.size) "set" := ⟨_, get0, rfl⟩
    have r6 := F.called_set.init.lookup
    have r7 := F.called_set.init.bind (.ref s.heap.objs.size)
    repeat any_goals first | assumption | wp_step
    refine codeAny_mono (codeAny_call_builtin (R := wants (fun r s2 => r = .none ∧ ∃ h' tk L es ep t, s2 = { s with heap := h', toks := tk } ∧ SX P w h' s.heap.objs.size L es ep t ∧ Got ks ks.length L ∧
      ∀ b o, s.heap.get? b = some o → h'.get? b = some o) E) F.called_set.init.plain F.entry_set_init (check_set_init_1 ty0 ?_)) fun r2 s2 hr2 => ?_
    · obtain ⟨⟨lc, ld, lda, lsl⟩, hol, hcl, nl, hdl⟩ := hl
      dsimp only at hcl hdl
      subst hcl hdl
      have hl1 : (s.heap.push (newS led)).IsList l items := ⟨_, Heap.get?_push_of_some _ hol, rfl, nl, rfl⟩
      have hol1 : (s.heap.push (newS led)).get? l = some { cls := .type "list", dict := ld, data := .seq items nl, slots := lsl } := Heap.get?_push_of_some _ hol
      have r8 := F.sub_list_set
      have r9 := F.sub_list_frozenset
      have r10 : (Value.type "list" == Value.type "dict") = false := by decide
      unfold Builtin.«set.__init__» noKeywords Builtin.Frozenset.updateFrom; generalize eIt : pyIter = it
      wp_walk
      subst eIt
      refine wpAny_pyIter_list hl1 (wpAny_bind (wpAny_runValue ?_))
      have lt : l < s.heap.objs.size := Heap.lt_size hol
      have out : ∀ b, s.heap.objs.size ≤ b → s.heap.get? b = none := fun b hb => by
        cases z : s.heap.get? b with
        | none => rfl
        | some o => exact absurd (Nat.lt_of_lt_of_le (Heap.lt_size z) hb) (Nat.lt_irrefl _)
      have calm3 : A.in1.in1.in1.handled = none := by simp [calm]
      have sz1 : (s.heap.push (newS led)).objs.size = s.heap.objs.size + 1 := Heap.size_push ..
      have val : ∀ (i : Nat) v, items[i]? = some v → ∃ y, ks[i]? = some y ∧ v = Value.ref y.1 := fun i v z => by
        rw [← Array.getElem?_toList, hit, List.getElem?_map] at z
        obtain ⟨y, hy, rfl⟩ := Option.map_eq_some_iff.mp z
        exact ⟨y, hy, rfl⟩
      refine loopX ((Walks.list calm3 _ l (by rw [sz1]; exact Nat.ne_of_lt (Nat.lt_succ_of_lt lt)) items).toS) s.heap.objs.size ?nS ks num few val s.heap rows (out _ (Nat.le_refl _)) ?w0 hu items.size 0 _ (Nat.zero_add _)
        ⟨⟨_, Heap.get?_push_size _ rfl, rfl, rfl⟩, hl1.push _⟩ (fun b o e => Heap.get?_push_of_some _ (Heap.get?_push_of_some _ e)) ?X0 ?fin
      case nS =>
        rw [sz1]
        intro z
        rcases List.mem_cons.mp z with y | y
        · exact absurd y (Nat.ne_of_lt (Nat.lt_succ_self _))
        · exact absurd (List.mem_singleton.mp y) (Nat.ne_of_gt lt)
      case w0 =>
        intro b hb
        rw [List.mem_singleton.mp hb, sz1]
        exact out _ (Nat.le_succ _)
      case X0 =>
        subst eled
        exact ⟨[], #[], 0, _, freshX (Heap.get?_push_of_some _ get0), Got.zero ks⟩
      case fin =>
        rintro ⟨h', g2, d2, tk, os2⟩ L es ep t mv X g keep
        obtain rfl : g2 = s.gens := mv.gens
        obtain rfl : d2 = s.drawn := mv.drawn
        obtain rfl : os2 = s.os := mv.os
        refine (?_ : wpAny _ _ _ _ _ _)
        refine wpAny_pure (?_ : wpAny _ _ (ret Value.none) _ _ _)
        exact wpAny_pure ⟨rfl, h', tk, L, es, ep, t, rfl, X, num ▸ g, keep⟩
    · rcases r2 with e | fl2
      · exact hr2
      cases fl2 with
      | ret r =>
        obtain ⟨rfl, h', tk, L, es, ep, t, rfl, X, g, keep⟩ := hr2
        repeat any_goals first | assumption | wp_step
        exact q _ _ _ _ _ _ X g keep
      | _ => exact hr2.elim
  | _ => exact hr.elim
end
section
variable {X : Cx}
def tLenSetR (K : PySem.W.Frag) (te : TE) : TE := fun σ H Q => te σ H fun x H1 => ∃ (l : Addr) (ks : List (Addr × List Int)), x = V.ref l ∧ SqL K H1 l (ks.map fun y => V.ref y.1) ∧ (∀ y ∈ ks, SqT K H1 y.1 (y.2.map V.int)) ∧ ks.length ≤ 250 ∧
  ∀ D : List (List Int), D.Nodup → (∀ k, k ∈ D ↔ k ∈ ks.map (·.2)) → Q (.int D.length) H1
theorem pe_lenSetR {e : Expr} {te : TE} {p p2 q pos : Pos} (calm : X.calm = true) (hu : X.A.units + 64 < cLine) (g1 : Gl X "len") (m1 : X.mg "len" = none) (g2 : Gl X "set") (m2 : X.mg "set" = none) (he : PE X e te)
    (one : starEach [e] X.env = (false, eval e X.env) :: starEach [] X.env := by rfl) : PE X (.Call (.Name "len" p) [.Call (.Name "set" p2) [e] [] q] [] pos) (tLenSetR X.K te) := by
  constructor
  intro pins s σ H Q I h
  refine Call_ (ld_blt I g1 m1 PySem.boot_len (PyProof.Rows.callWith_builtin1 (PyProof.Rows.args_cons ?_ rfl) rfl rfl))
  refine Call_ (ld_blt I g2 m2 PyProof.Rows.boot_set ?_)
  refine PyProof.Rows.callWith_type1 (PyProof.Rows.args_cons (thn (he.run pins s σ H _ I h) fun v s1 z => PyProof.Rows.args_nil ?_) one) one rfl
  obtain ⟨x, H1, I1, rx, l, ks, rfl, hl, hk, few, q1⟩ := z
  cases rx
  obtain ⟨its, rv, pl, hz⟩ := I1.list hl
  refine callX (P := X.prog) (w := X.w) ks (I1.ok.hd calm) pl.isList (by simpa using refs_of_vals rv) (fun y hy => I1.isT (hk y hy)) few (by omega) fun h' tk L es ep t R g keep => ?_
  refine (PyProof.Rows.args_nil ?_); obtain ⟨o, ho, hex, hd⟩ := R.at_
  have top := R.tab.msk.top
  have fr := R.free
  have I2 : Inv X pins σ H1 { s1 with heap := h', toks := tk } := I1.kept keep
  refine call_len_set ho hex hd R.fit (by rw [R.num]; omega) ⟨.int (L.map (·.2)).length, H1, I2.tok _, ⟨_, by rw [R.num, List.length_map]⟩, q1 _ R.one fun k => ⟨fun z => ?_, fun z => ?_⟩⟩
  · obtain ⟨y, hy, rfl⟩ := List.mem_map.mp z
    exact List.mem_map.mpr ⟨y, List.mem_of_mem_take (g.sub y hy), rfl⟩
  · obtain ⟨y, hy, rfl⟩ := List.mem_map.mp z
    exact g.all y (by rw [List.take_length]; exact hy)
end
end Pt
namespace Pt
open PySem PySem.Spec PyProof.Rows L2
theorem pe_lenSetK {X : Cx} (K : PySem.W.Frag) {e : Expr} {te : TE} {p p2 q pos : Pos} (calm : X.calm = true) (hu : X.A.units + 65 < cLine) (g1 : Gl X "len") (m1 : X.mg "len" = none) (g2 : Gl X "set") (m2 : X.mg "set" = none) (he : PE X e te)
    (hK : X.K = K := by rfl) (one : starEach [e] X.env = (false, eval e X.env) :: starEach [] X.env := by rfl) : PE X (.Call (.Name "len" p) [.Call (.Name "set" p2) [e] [] q] [] pos) (tLenSetR K te) :=
  hK ▸ pe_lenSetR calm (by omega) g1 m1 g2 m2 he one
theorem cr_maxK {X : Cx} (K : PySem.W.Frag) (hc : X.calm = true) (h : X.K = K := by rfl) : CallR X (.builtin "max") (rMax K) := h ▸ cr_max hc
variable {K : PySem.W.Frag} {C : Addr} {H H' H1 H2 : Hp} {v w x y : V} {vs : List V} {d e : PyData} {ds es : List PyData}
variable {S : List Addr} {G : List (V × PyData)} {H0 : Hp} {σ : L2.St} {Γ : List Ct} {i j k l m : Nat} {c : Ct} {te ta tb tc tl ty td tv : TE} {t u : TT} {ts : TA}
variable {D : Ends} {tu tw tz : TS} {p q f : Addr} {E E' : XK} {P : Program} {W : World} {R R2 : PyData → Prop}
theorem rows_at {H : Hp} : ∀ {L : List (List Int)} {xs : List V}, TdAll K H xs (L.map row) → ∃ ks : List (Addr × List Int), xs = ks.map (fun y => V.ref y.1) ∧ ks.map (·.2) = L ∧ ∀ y ∈ ks, SqT K H y.1 (y.2.map V.int)
  | [], xs, h => by
    cases h
    exact ⟨[], rfl, rfl, fun _ z => by cases z⟩
  | r :: L, xs, h => by
    cases h with
    | cons h1 h2 =>
      obtain ⟨ks, rfl, rfl, h3⟩ := rows_at h2
      obtain ⟨b, rfl, s⟩ := row_of h1
      exact ⟨(b, r) :: ks, rfl, rfl, fun y hy => by
        rcases List.mem_cons.mp hy with z | z
        · rw [z]; exact s.sq
        · exact h3 y z⟩
theorem ev_lenSetN {L : List (List Int)} (h : EvN K C te σ H (L.map row)) (few : L.length ≤ 250) {D : List (List Int)} (nd : D.Nodup) (hm : ∀ r, r ∈ D ↔ r ∈ L) : EvC K C (tLenSetR K te) σ H (.d (.int (D.length : Nat))) := fun H1 e1 Q q =>
  h H1 e1 _ fun p H2 hp e2 a => by
    obtain ⟨_, xs, s, t⟩ := a
    obtain ⟨ks, rfl, rfl, hk⟩ := rows_at t
    refine ⟨p, ks, rfl, SqL.of s, hk, by simpa using few, fun D' nd' hm' => ?_⟩
    have e : D'.length = D.length := by
      refine (List.perm_ext_iff_of_nodup nd' nd).mpr (fun r => ?_) |>.length_eq
      rw [hm', hm]
    rw [e]
    exact q _ _ e2 (.int _)
theorem ev_maxL {p : Addr} {ns : List Int} {M : Int} (h : EvC K C te σ H (.l p (iL ns))) (hM : M ∈ ns) (top : ∀ y ∈ ns, y ≤ M) : EvC K C (tCB (rMax K) (tCons te tNil)) σ H (.d (.int M)) := fun H1 e1 Q q => h H1 e1 _ fun v H2 e2 a => by
  obtain ⟨rfl, xs, s, t⟩ := a
  rw [t.iL_of] at s
  refine ⟨p, ns, rfl, SqL.of s, List.length_pos_of_mem hM, fun m h1 h2 => ?_⟩
  have e : m = M := Int.le_antisymm (top m h1) (h2 M hM)
  rw [e]
  exact q _ H2 e2 (.int _)
theorem de_nextW {R : Int → Prop} (hi : Γ[i]? = some (.h p q)) (hb : DrI K C S G H0 σ Γ tb R) (h1 : ∀ b, R b → 1 ≤ b ∧ b.natAbs < 2 ^ 8000) : DrI K C S G H0 σ Γ (tCall (spHW K C) [] E (tCons (tVar i) (tCons tb tNil))) (fun r => ∃ b, R b ∧ 0 ≤ r ∧ r < b) := fun H w Q q => by
  obtain ⟨v, ev, av⟩ := w.get hi
  refine ⟨v, ev, hb H w _ fun b H1 hb w1 => ?_⟩
  have z := dr_nextW (E := E) (tb := tC (.int b)) w1 hi (ev_int (k := b)) (h1 b hb).1 (h1 b hb).2 (Q := Q) fun r H' r0 r1 w2 => q r H' ⟨b, hb, r0, r1⟩ w2
  obtain ⟨v', ev', z⟩ := z
  rw [ev] at ev'
  cases ev'
  exact z
theorem de_list {ns : List Int} {n : Int} {tl : TE} (hl : ∀ H, EvC K C tl σ H (.d (.list (iL ns)))) (hn : n = (ns.length : Nat)) (n1 : 1 ≤ n) (n2 : n ≤ 1000) (hi : Γ[i]? = some (.h p q)) :
    DrI K C S G H0 σ Γ (tOp (rIx K) tl (tCall (spH K C) [] E (tCons (tVar i) (tCons (tC (.int n)) tNil)))) (fun r => r ∈ ns) := fun H w Q q => by
  refine hl H H (Same.refl H) _ fun v H1 e1 a1 => ?_
  have a1 : Td K H1 v (.list (iL ns)) := a1
  refine dr_next ((w.mono e1).ghost a1) hi ev_int n1 (by omega) fun r H2 r0 r1 w2 => ?_
  have hv : EvC K C (tC v) σ H2 (.d (.list (iL ns))) := fun H3 e3 Q q => q v H3 (Same.refl H3) (Td.mono (.of e3) _ _ w2.gh0)
  obtain ⟨k, rfl⟩ : ∃ k : Nat, r = (k : Nat) := ⟨r.toNat, by omega⟩
  have lt : k < ns.length := by omega
  refine ev_ixDL hv (ev_int (k := ((k : Nat) : Int))) (d := .int ns[k]) (atI_nat (by unfold iL; rw [List.getElem?_map, List.getElem?_eq_getElem lt]; rfl)) H2 (Same.refl H2) Q fun v' H3 e3 t3 => ?_
  rw [Td.int_of t3]
  exact q _ H3 (List.getElem_mem lt) (w2.mono e3).unghost
theorem di_next {R : Int → Prop} (hi : Γ[i]? = some (.h p q)) (hb : DrI K C S G H0 σ Γ tb R) (h1 : ∀ b, R b → 1 ≤ b ∧ b ≤ 1000000) : DrI K C S G H0 σ Γ (tCall (spH K C) [] E (tCons (tVar i) (tCons tb tNil))) (fun r => ∃ b, R b ∧ 0 ≤ r ∧ r < b) := fun H w Q q => by
  obtain ⟨v, ev, av⟩ := w.get hi
  refine ⟨v, ev, hb H w _ fun b H1 hb w1 => ?_⟩
  have z := dr_next (E := E) (tb := tC (.int b)) w1 hi (ev_int (k := b)) (h1 b hb).1 (h1 b hb).2 (Q := Q) fun r H' r0 r1 w2 => q r H' ⟨b, hb, r0, r1⟩ w2
  obtain ⟨v', ev', z⟩ := z
  rw [ev] at ev'
  cases ev'
  exact z
theorem di_pure {b : Int} (h : ∀ H, Wd K C S G H0 H σ Γ → EvC K C te σ H (.d (.int b))) : DrI K C S G H0 σ Γ te (fun r => r = b) := fun H w Q q => h H w H (Same.refl H) _ fun v H1 e1 td => by
  rw [Td.int_of td]
  exact q b H1 rfl (w.mono e1)
theorem di_add {R : Int → Prop} {a : Int} (h : DrI K C S G H0 σ Γ te R) : DrI K C S G H0 σ Γ (tOp (rAddU K) (tC (.int a)) te) (fun z => ∃ r, R r ∧ z = a + r) := fun H w Q q =>
  h H w _ fun r H1 hR w1 => ev_addI (K := K) (C := C) (σ := σ) (ta := tC (.int a)) (tb := tC (.int r)) ev_int ev_int H1 (Same.refl H1) Q fun v H2 e2 td => by
    rw [Td.int_of td]
    exact q _ H2 ⟨r, hR, rfl⟩ (w1.mono e2)
theorem q_asgI {R : Int → Prop} {z : Nat} (w : Wd K C S G H0 H σ Γ) (h : DrI K C S G H0 σ Γ te R) (k : ∀ (r : Int) σ1 H1, R r → Wd K C S G H0 H1 σ1 (Γ.set z (.d (.int r))) → tz D σ1 H1) : tSeq (tAsg te (gName z)) tz D σ H :=
  h H w _ fun r H1 hR w1 => k r _ H1 hR (w1.set z (c := .d (.int r)) (.int _))
end Pt
set_option maxRecDepth 10000000
namespace K1
open PySem PySem.Spec PyProof.Rows L2 Pt
def topS (i : Nat) : Stmt := PySem.Challenge.pw_placetrade_k05_whole_counts_of_rows.main.body.getD i (.Pass ⟨0, 0, 0, 0⟩)
abbrev s_is_whole : Stmt := topS 10
abbrev N_is_whole : List Str := ["value", "low", "high"]
theorem sc_is_whole : FnScope N_is_whole ["value", "low", "high"] (defScope s_is_whole) := ⟨rfl, rfl, rfl, by decide +kernel, rfl, by decide +kernel, by decide +kernel⟩
abbrev s_is_letter : Stmt := topS 11
abbrev N_is_letter : List Str := ["letters", "value"]
theorem sc_is_letter : FnScope N_is_letter ["letters", "value"] (defScope s_is_letter) := ⟨rfl, rfl, rfl, by decide +kernel, rfl, by decide +kernel, by decide +kernel⟩
abbrev s_is_pair : Stmt := topS 12
abbrev N_is_pair : List Str := ["letters", "value", "letter"]
theorem sc_is_pair : FnScope N_is_pair ["letters", "value"] (defScope s_is_pair) := ⟨rfl, rfl, rfl, by decide +kernel, rfl, by decide +kernel, by decide +kernel⟩
abbrev s_check_pairs : Stmt := topS 13
abbrev N_check_pairs : List Str := ["letters", "pairs", "index", "pair"]
theorem sc_check_pairs : FnScope N_check_pairs ["letters", "pairs"] (defScope s_check_pairs) := ⟨rfl, rfl, rfl, by decide +kernel, rfl, by decide +kernel, by decide +kernel⟩
abbrev s_Trade___init__ : Stmt := inClass (topS 14) 0
abbrev N_Trade___init__ : List Str := ["self", "letters", "pairs"]
theorem sc_Trade___init__ : FnScope N_Trade___init__ ["self", "letters", "pairs"] (defScope s_Trade___init__) := ⟨rfl, rfl, rfl, by decide +kernel, rfl, by decide +kernel, by decide +kernel⟩
abbrev s_Trade_letters : Stmt := inClass (topS 14) 1
abbrev N_Trade_letters : List Str := ["self"]
theorem sc_Trade_letters : FnScope N_Trade_letters ["self"] (defScope s_Trade_letters) := ⟨rfl, rfl, rfl, by decide +kernel, rfl, by decide +kernel, by decide +kernel⟩
abbrev s_Trade_pairs : Stmt := inClass (topS 14) 2
abbrev N_Trade_pairs : List Str := ["self"]
theorem sc_Trade_pairs : FnScope N_Trade_pairs ["self"] (defScope s_Trade_pairs) := ⟨rfl, rfl, rfl, by decide +kernel, rfl, by decide +kernel, by decide +kernel⟩
abbrev s_Trade___eq__ : Stmt := inClass (topS 14) 3
abbrev s_check_trade : Stmt := topS 15
abbrev N_check_trade : List Str := ["trade"]
theorem sc_check_trade : FnScope N_check_trade ["trade"] (defScope s_check_trade) := ⟨rfl, rfl, rfl, by decide +kernel, rfl, by decide +kernel, by decide +kernel⟩
abbrev s_may_change : Stmt := topS 16
abbrev N_may_change : List Str := ["trade", "one", "other"]
theorem sc_may_change : FnScope N_may_change ["trade", "one", "other"] (defScope s_may_change) := ⟨rfl, rfl, rfl, by decide +kernel, rfl, by decide +kernel, by decide +kernel⟩
abbrev s_bars_of : Stmt := topS 17
abbrev N_bars_of : List Str := ["trade", "bars", "letter", "bits", "other"]
theorem sc_bars_of : FnScope N_bars_of ["trade"] (defScope s_bars_of) := ⟨rfl, rfl, rfl, by decide +kernel, rfl, by decide +kernel, by decide +kernel⟩
abbrev s_groups : Stmt := topS 22
abbrev N_groups : List Str := ["trade"]
theorem sc_groups : FnScope N_groups ["trade"] (defScope s_groups) := ⟨rfl, rfl, rfl, by decide +kernel, rfl, by decide +kernel, by decide +kernel⟩
abbrev s_all_groups : Stmt := topS 23
abbrev N_all_groups : List Str := ["trade", "found", "letter", "group"]
theorem sc_all_groups : FnScope N_all_groups ["trade"] (defScope s_all_groups) := ⟨rfl, rfl, rfl, by decide +kernel, rfl, by decide +kernel, by decide +kernel⟩
abbrev s_may_join : Stmt := topS 24
abbrev N_may_join : List Str := ["trade", "group", "letter", "other"]
theorem sc_may_join : FnScope N_may_join ["trade", "group", "letter"] (defScope s_may_join) := ⟨rfl, rfl, rfl, by decide +kernel, rfl, by decide +kernel, by decide +kernel⟩
abbrev s_signed_counts : Stmt := topS 25
abbrev N_signed_counts : List Str := ["trade", "counts", "group"]
theorem sc_signed_counts : FnScope N_signed_counts ["trade"] (defScope s_signed_counts) := ⟨rfl, rfl, rfl, by decide +kernel, rfl, by decide +kernel, by decide +kernel⟩
abbrev s_sign : Stmt := topS 26
abbrev N_sign : List Str := ["number"]
theorem sc_sign : FnScope N_sign ["number"] (defScope s_sign) := ⟨rfl, rfl, rfl, by decide +kernel, rfl, by decide +kernel, by decide +kernel⟩
abbrev s_how_many : Stmt := topS 27
abbrev N_how_many : List Str := ["trade", "length", "counts", "found", "now", "total", "size"]
theorem sc_how_many : FnScope N_how_many ["trade", "length"] (defScope s_how_many) := ⟨rfl, rfl, rfl, by decide +kernel, rfl, by decide +kernel, by decide +kernel⟩
abbrev s_how_many_by : Stmt := topS 28
abbrev N_how_many_by : List Str := ["trade", "length", "modulus"]
theorem sc_how_many_by : FnScope N_how_many_by ["trade", "length", "modulus"] (defScope s_how_many_by) := ⟨rfl, rfl, rfl, by decide +kernel, rfl, by decide +kernel, by decide +kernel⟩
abbrev s_term_by : Stmt := topS 29
abbrev N_term_by : List Str := ["counts", "length", "modulus", "above", "below", "left", "other"]
theorem sc_term_by : FnScope N_term_by ["counts", "length", "modulus"] (defScope s_term_by) := ⟨rfl, rfl, rfl, by decide +kernel, rfl, by decide +kernel, by decide +kernel⟩
abbrev s_change_signs : Stmt := topS 30
abbrev N_change_signs : List Str := ["terms", "place", "term"]
theorem sc_change_signs : FnScope N_change_signs ["terms"] (defScope s_change_signs) := ⟨rfl, rfl, rfl, by decide +kernel, rfl, by decide +kernel, by decide +kernel⟩
abbrev s_multiply : Stmt := topS 31
abbrev N_multiply : List Str := ["one", "other", "modulus", "found", "low", "term", "high", "by"]
theorem sc_multiply : FnScope N_multiply ["one", "other", "modulus"] (defScope s_multiply) := ⟨rfl, rfl, rfl, by decide +kernel, rfl, by decide +kernel, by decide +kernel⟩
abbrev s_is_row : Stmt := topS 34
abbrev N_is_row : List Str := ["letters", "value", "letter"]
theorem sc_is_row : FnScope N_is_row ["letters", "value"] (defScope s_is_row) := ⟨rfl, rfl, rfl, by decide +kernel, rfl, by decide +kernel, by decide +kernel⟩
abbrev s_check_row : Stmt := topS 35
abbrev N_check_row : List Str := ["trade", "row"]
theorem sc_check_row : FnScope N_check_row ["trade", "row"] (defScope s_check_row) := ⟨rfl, rfl, rfl, by decide +kernel, rfl, by decide +kernel, by decide +kernel⟩
abbrev s_least : Stmt := topS 36
abbrev N_least : List Str := ["trade", "row"]
theorem sc_least : FnScope N_least ["trade", "row"] (defScope s_least) := ⟨rfl, rfl, rfl, by decide +kernel, rfl, by decide +kernel, by decide +kernel⟩
abbrev s_first_letters : Stmt := topS 37
abbrev N_first_letters : List Str := ["bars", "row", "found", "barred", "place", "letter"]
theorem sc_first_letters : FnScope N_first_letters ["bars", "row"] (defScope s_first_letters) := ⟨rfl, rfl, rfl, by decide +kernel, rfl, by decide +kernel, by decide +kernel⟩
abbrev s_without : Stmt := topS 38
abbrev N_without : List Str := ["row", "place"]
theorem sc_without : FnScope N_without ["row", "place"] (defScope s_without) := ⟨rfl, rfl, rfl, by decide +kernel, rfl, by decide +kernel, by decide +kernel⟩
abbrev s_least_of : Stmt := topS 39
abbrev N_least_of : List Str := ["bars", "row", "found", "left", "letter", "place"]
theorem sc_least_of : FnScope N_least_of ["bars", "row"] (defScope s_least_of) := ⟨rfl, rfl, rfl, by decide +kernel, rfl, by decide +kernel, by decide +kernel⟩
abbrev s__law_mix : Stmt := topS 41
abbrev N__law_mix : List Str := ["_law_script", "_law_seed", "_law_state", "_law_cell"]
theorem sc__law_mix : FnScope N__law_mix ["_law_script", "_law_seed"] (defScope s__law_mix) := ⟨rfl, rfl, rfl, by decide +kernel, rfl, by decide +kernel, by decide +kernel⟩
abbrev s__law_next : Stmt := topS 42
abbrev N__law_next : List Str := ["_law_h", "_law_bound", "_law_cell", "_law_cells"]
theorem sc__law_next : FnScope N__law_next ["_law_h", "_law_bound"] (defScope s__law_next) := ⟨rfl, rfl, rfl, by decide +kernel, rfl, by decide +kernel, by decide +kernel⟩
abbrev s__law_pairs : Stmt := topS 43
abbrev N__law_pairs : List Str := ["_law_h", "_law_letters", "_law_kind", "_law_found", "_law_a", "_law_b"]
theorem sc__law_pairs : FnScope N__law_pairs ["_law_h", "_law_letters"] (defScope s__law_pairs) := ⟨rfl, rfl, rfl, by decide +kernel, rfl, by decide +kernel, by decide +kernel⟩
abbrev s__law_may : Stmt := topS 45
abbrev N__law_may : List Str := ["_law_pairs_here", "_law_a", "_law_b"]
theorem sc__law_may : FnScope N__law_may ["_law_pairs_here", "_law_a", "_law_b"] (defScope s__law_may) := ⟨rfl, rfl, rfl, by decide +kernel, rfl, by decide +kernel, by decide +kernel⟩
abbrev s__law_groups : Stmt := topS 47
abbrev N__law_groups : List Str := ["_law_letters", "_law_pairs_here", "_law_found", "_law_a", "_law_some"]
theorem sc__law_groups : FnScope N__law_groups ["_law_letters", "_law_pairs_here"] (defScope s__law_groups) := ⟨rfl, rfl, rfl, by decide +kernel, rfl, by decide +kernel, by decide +kernel⟩
abbrev s__law_is_group : Stmt := topS 48
abbrev N__law_is_group : List Str := ["_law_pairs_here", "_law_some", "_law_a", "_law_b"]
theorem sc__law_is_group : FnScope N__law_is_group ["_law_pairs_here", "_law_some"] (defScope s__law_is_group) := ⟨rfl, rfl, rfl, by decide +kernel, rfl, by decide +kernel, by decide +kernel⟩
abbrev s__law_every : Stmt := topS 49
abbrev N__law_every : List Str := ["_law_letters", "_law_length", "_law_found", "_law_k", "_law_longer", "_law_row_here", "_law_a"]
theorem sc__law_every : FnScope N__law_every ["_law_letters", "_law_length"] (defScope s__law_every) := ⟨rfl, rfl, rfl, by decide +kernel, rfl, by decide +kernel, by decide +kernel⟩
abbrev s__law_row_of : Stmt := topS 50
abbrev N__law_row_of : List Str := ["_law_weights", "_law_length", "_law_found", "_law_n", "_law_k"]
theorem sc__law_row_of : FnScope N__law_row_of ["_law_weights", "_law_length"] (defScope s__law_row_of) := ⟨rfl, rfl, rfl, by decide +kernel, rfl, by decide +kernel, by decide +kernel⟩
abbrev s_law : Stmt := topS 51
abbrev N_law : List Str := ["_law_script", "_law_h", "_law_letters", "_law_pairs_here", "_law_told", "_law_lots", "_law_sizes", "_law_weights", "_law_k", "_law_own", "_law_length", "_law_due", "_law_modulus", "_law_far", "_law_some", "_law_x", "_law_row_here"]
theorem sc_law : FnScope N_law ["_law_script"] (defScope s_law) := ⟨rfl, rfl, rfl, by decide +kernel, rfl, by decide +kernel, by decide +kernel⟩
set_option genInjectivity false in
set_option genSizeOf false in
structure Nv (K : PySem.W.Frag) (mg : Str → Option Value) : Type where
  a_is_whole : Addr
  d_is_whole : FuncData
  F_is_whole : Fun K "is_whole" "is_whole" s_is_whole a_is_whole d_is_whole
  b_is_whole : Binds K d_is_whole ["value", "low", "high"] []
  m_is_whole : mg "is_whole" = some (.ref a_is_whole)
  a_is_letter : Addr
  d_is_letter : FuncData
  F_is_letter : Fun K "is_letter" "is_letter" s_is_letter a_is_letter d_is_letter
  b_is_letter : Binds K d_is_letter ["letters", "value"] []
  m_is_letter : mg "is_letter" = some (.ref a_is_letter)
  a_is_pair : Addr
  d_is_pair : FuncData
  F_is_pair : Fun K "is_pair" "is_pair" s_is_pair a_is_pair d_is_pair
  b_is_pair : Binds K d_is_pair ["letters", "value"] []
  m_is_pair : mg "is_pair" = some (.ref a_is_pair)
  a_check_pairs : Addr
  d_check_pairs : FuncData
  F_check_pairs : Fun K "check_pairs" "check_pairs" s_check_pairs a_check_pairs d_check_pairs
  b_check_pairs : Binds K d_check_pairs ["letters", "pairs"] []
  m_check_pairs : mg "check_pairs" = some (.ref a_check_pairs)
  a_Trade___init__ : Addr
  d_Trade___init__ : FuncData
  F_Trade___init__ : Fun K "__init__" "Trade.__init__" s_Trade___init__ a_Trade___init__ d_Trade___init__
  b_Trade___init__ : Binds K d_Trade___init__ ["self", "letters", "pairs"] []
  a_Trade_letters : Addr
  d_Trade_letters : FuncData
  F_Trade_letters : Fun K "letters" "Trade.letters" s_Trade_letters a_Trade_letters d_Trade_letters
  b_Trade_letters : Binds K d_Trade_letters ["self"] []
  a_Trade_pairs : Addr
  d_Trade_pairs : FuncData
  F_Trade_pairs : Fun K "pairs" "Trade.pairs" s_Trade_pairs a_Trade_pairs d_Trade_pairs
  b_Trade_pairs : Binds K d_Trade_pairs ["self"] []
  a_Trade___eq__ : Addr
  d_Trade___eq__ : FuncData
  F_Trade___eq__ : Fun K "__eq__" "Trade.__eq__" s_Trade___eq__ a_Trade___eq__ d_Trade___eq__
  b_Trade___eq__ : Binds K d_Trade___eq__ ["self", "other"] []
  a_check_trade : Addr
  d_check_trade : FuncData
  F_check_trade : Fun K "check_trade" "check_trade" s_check_trade a_check_trade d_check_trade
  b_check_trade : Binds K d_check_trade ["trade"] []
  m_check_trade : mg "check_trade" = some (.ref a_check_trade)
  a_may_change : Addr
  d_may_change : FuncData
  F_may_change : Fun K "may_change" "may_change" s_may_change a_may_change d_may_change
  b_may_change : Binds K d_may_change ["trade", "one", "other"] []
  m_may_change : mg "may_change" = some (.ref a_may_change)
  a_bars_of : Addr
  d_bars_of : FuncData
  F_bars_of : Fun K "bars_of" "bars_of" s_bars_of a_bars_of d_bars_of
  b_bars_of : Binds K d_bars_of ["trade"] []
  m_bars_of : mg "bars_of" = some (.ref a_bars_of)
  a_groups : Addr
  d_groups : FuncData
  F_groups : Fun K "groups" "groups" s_groups a_groups d_groups
  b_groups : Binds K d_groups ["trade"] []
  m_groups : mg "groups" = some (.ref a_groups)
  a_all_groups : Addr
  d_all_groups : FuncData
  F_all_groups : Fun K "all_groups" "all_groups" s_all_groups a_all_groups d_all_groups
  b_all_groups : Binds K d_all_groups ["trade"] []
  m_all_groups : mg "all_groups" = some (.ref a_all_groups)
  a_may_join : Addr
  d_may_join : FuncData
  F_may_join : Fun K "may_join" "may_join" s_may_join a_may_join d_may_join
  b_may_join : Binds K d_may_join ["trade", "group", "letter"] []
  m_may_join : mg "may_join" = some (.ref a_may_join)
  a_signed_counts : Addr
  d_signed_counts : FuncData
  F_signed_counts : Fun K "signed_counts" "signed_counts" s_signed_counts a_signed_counts d_signed_counts
  b_signed_counts : Binds K d_signed_counts ["trade"] []
  m_signed_counts : mg "signed_counts" = some (.ref a_signed_counts)
  a_sign : Addr
  d_sign : FuncData
  F_sign : Fun K "sign" "sign" s_sign a_sign d_sign
  b_sign : Binds K d_sign ["number"] []
  m_sign : mg "sign" = some (.ref a_sign)
  a_how_many : Addr
  d_how_many : FuncData
  F_how_many : Fun K "how_many" "how_many" s_how_many a_how_many d_how_many
  b_how_many : Binds K d_how_many ["trade", "length"] []
  m_how_many : mg "how_many" = some (.ref a_how_many)
  a_how_many_by : Addr
  d_how_many_by : FuncData
  F_how_many_by : Fun K "how_many_by" "how_many_by" s_how_many_by a_how_many_by d_how_many_by
  b_how_many_by : Binds K d_how_many_by ["trade", "length", "modulus"] []
  m_how_many_by : mg "how_many_by" = some (.ref a_how_many_by)
  a_term_by : Addr
  d_term_by : FuncData
  F_term_by : Fun K "term_by" "term_by" s_term_by a_term_by d_term_by
  b_term_by : Binds K d_term_by ["counts", "length", "modulus"] []
  m_term_by : mg "term_by" = some (.ref a_term_by)
  a_change_signs : Addr
  d_change_signs : FuncData
  F_change_signs : Fun K "change_signs" "change_signs" s_change_signs a_change_signs d_change_signs
  b_change_signs : Binds K d_change_signs ["terms"] []
  m_change_signs : mg "change_signs" = some (.ref a_change_signs)
  a_multiply : Addr
  d_multiply : FuncData
  F_multiply : Fun K "multiply" "multiply" s_multiply a_multiply d_multiply
  b_multiply : Binds K d_multiply ["one", "other", "modulus"] []
  m_multiply : mg "multiply" = some (.ref a_multiply)
  a_is_row : Addr
  d_is_row : FuncData
  F_is_row : Fun K "is_row" "is_row" s_is_row a_is_row d_is_row
  b_is_row : Binds K d_is_row ["letters", "value"] []
  m_is_row : mg "is_row" = some (.ref a_is_row)
  a_check_row : Addr
  d_check_row : FuncData
  F_check_row : Fun K "check_row" "check_row" s_check_row a_check_row d_check_row
  b_check_row : Binds K d_check_row ["trade", "row"] []
  m_check_row : mg "check_row" = some (.ref a_check_row)
  a_least : Addr
  d_least : FuncData
  F_least : Fun K "least" "least" s_least a_least d_least
  b_least : Binds K d_least ["trade", "row"] []
  m_least : mg "least" = some (.ref a_least)
  a_first_letters : Addr
  d_first_letters : FuncData
  F_first_letters : Fun K "first_letters" "first_letters" s_first_letters a_first_letters d_first_letters
  b_first_letters : Binds K d_first_letters ["bars", "row"] []
  m_first_letters : mg "first_letters" = some (.ref a_first_letters)
  a_without : Addr
  d_without : FuncData
  F_without : Fun K "without" "without" s_without a_without d_without
  b_without : Binds K d_without ["row", "place"] []
  m_without : mg "without" = some (.ref a_without)
  a_least_of : Addr
  d_least_of : FuncData
  F_least_of : Fun K "least_of" "least_of" s_least_of a_least_of d_least_of
  b_least_of : Binds K d_least_of ["bars", "row"] []
  m_least_of : mg "least_of" = some (.ref a_least_of)
  a__law_mix : Addr
  d__law_mix : FuncData
  F__law_mix : Fun K "_law_mix" "_law_mix" s__law_mix a__law_mix d__law_mix
  b__law_mix : Binds K d__law_mix ["_law_script", "_law_seed"] []
  m__law_mix : mg "_law_mix" = some (.ref a__law_mix)
  a__law_next : Addr
  d__law_next : FuncData
  F__law_next : Fun K "_law_next" "_law_next" s__law_next a__law_next d__law_next
  b__law_next : Binds K d__law_next ["_law_h", "_law_bound"] []
  m__law_next : mg "_law_next" = some (.ref a__law_next)
  a__law_pairs : Addr
  d__law_pairs : FuncData
  F__law_pairs : Fun K "_law_pairs" "_law_pairs" s__law_pairs a__law_pairs d__law_pairs
  b__law_pairs : Binds K d__law_pairs ["_law_h", "_law_letters"] []
  m__law_pairs : mg "_law_pairs" = some (.ref a__law_pairs)
  a__law_may : Addr
  d__law_may : FuncData
  F__law_may : Fun K "_law_may" "_law_may" s__law_may a__law_may d__law_may
  b__law_may : Binds K d__law_may ["_law_pairs_here", "_law_a", "_law_b"] []
  m__law_may : mg "_law_may" = some (.ref a__law_may)
  a__law_groups : Addr
  d__law_groups : FuncData
  F__law_groups : Fun K "_law_groups" "_law_groups" s__law_groups a__law_groups d__law_groups
  b__law_groups : Binds K d__law_groups ["_law_letters", "_law_pairs_here"] []
  m__law_groups : mg "_law_groups" = some (.ref a__law_groups)
  a__law_is_group : Addr
  d__law_is_group : FuncData
  F__law_is_group : Fun K "_law_is_group" "_law_is_group" s__law_is_group a__law_is_group d__law_is_group
  b__law_is_group : Binds K d__law_is_group ["_law_pairs_here", "_law_some"] []
  m__law_is_group : mg "_law_is_group" = some (.ref a__law_is_group)
  a__law_every : Addr
  d__law_every : FuncData
  F__law_every : Fun K "_law_every" "_law_every" s__law_every a__law_every d__law_every
  b__law_every : Binds K d__law_every ["_law_letters", "_law_length"] []
  m__law_every : mg "_law_every" = some (.ref a__law_every)
  a__law_row_of : Addr
  d__law_row_of : FuncData
  F__law_row_of : Fun K "_law_row_of" "_law_row_of" s__law_row_of a__law_row_of d__law_row_of
  b__law_row_of : Binds K d__law_row_of ["_law_weights", "_law_length"] []
  m__law_row_of : mg "_law_row_of" = some (.ref a__law_row_of)
  a_law : Addr
  d_law : FuncData
  F_law : Fun K "law" "law" s_law a_law d_law
  b_law : Binds K d_law ["_law_script"] []
  m_law : mg "law" = some (.ref a_law)
  C_Trade : Addr
  m_Trade : mg "Trade" = some (.ref C_Trade)
  n_all : mg "all" = none
  n_bool : mg "bool" = none
  n_enumerate : mg "enumerate" = none
  n_int : mg "int" = none
  n_isinstance : mg "isinstance" = none
  n_len : mg "len" = none
  n_list : mg "list" = none
  n_max : mg "max" = none
  n_min : mg "min" = none
  n_range : mg "range" = none
  n_set : mg "set" = none
  n_sorted : mg "sorted" = none
  n_sum : mg "sum" = none
  n_tuple : mg "tuple" = none
  t_MOST_LETTERS : Tok
  c_MOST_LETTERS : mg "MOST_LETTERS" = some (.int 6 t_MOST_LETTERS)
  t_MOST_LENGTH : Tok
  c_MOST_LENGTH : mg "MOST_LENGTH" = some (.int 500 t_MOST_LENGTH)
  t_MOST_IN_ROW : Tok
  c_MOST_IN_ROW : mg "MOST_IN_ROW" = some (.int 20 t_MOST_IN_ROW)
  t_MOST_LENGTH_BY : Tok
  c_MOST_LENGTH_BY : mg "MOST_LENGTH_BY" = some (.int 1000000000000000000000000000000 t_MOST_LENGTH_BY)
  t_MOST_MODULUS : Tok
  c_MOST_MODULUS : mg "MOST_MODULUS" = some (.int 1000000000 t_MOST_MODULUS)
  cl : Cls K C_Trade
  nl : NoAttr K C_Trade "_letters"
  np : NoAttr K C_Trade "_pairs"
  mk_Trade : Mk K C_Trade a_Trade___init__
  pr_l : Addr
  pr_p : Addr
  p_letters : PropOf K C_Trade "letters" pr_l a_Trade_letters
  p_pairs : PropOf K C_Trade "pairs" pr_p a_Trade_pairs
  ic : InsK K C_Trade
  eqf : PySem.W.findIn K (.ref C_Trade) "__eq__" = some (some (.ref a_Trade___eq__))
  eqi : PySem.W.isFn K (.ref a_Trade___eq__) = true
  nf : PySem.W.notFirst K C_Trade (.type "tuple") = true
local macro_rules
  | `(tactic| walk_at "sz") => `(tactic| first
    | omega
    | decide
    | (simp; omega)
    | (simp [iL, row, pairsD]; omega))
  | `(tactic| walk_at "ea") => `(tactic| first
    | (with_reducible exact ea_nil)
    | ((with_reducible apply ea_consL); (focus (walk_at "ev")); (focus (walk_at "ea")))
    | ((with_reducible apply ea_consS); (focus (walk_at "ev")); (focus (walk_at "ea")))
    | ((with_reducible apply ea_cons); (focus (walk_at "ev")); (focus (walk_at "ea")))
    | ((with_reducible apply ea_consN); (focus (walk_at "en")); (focus (walk_at "ea"))))
  | `(tactic| walk_at "ed") => `(tactic| first
    | (with_reducible exact ed_nil)
    | ((with_reducible apply ed_cons); (focus (walk_at "ev")); (focus (walk_at "ed"))))
  | `(tactic| walk_at "en") => `(tactic| first
    | ((with_reducible apply en_lst); (focus (walk_at "ed")); (focus (simp)))
    | ((with_reducible apply en_listT); (focus (walk_at "ev")))
    | ((with_reducible apply en_addL); (focus (walk_at "ev")); (focus (walk_at "en")); (focus (walk_at "sz")))
    | ((with_reducible apply en_addN); (focus (walk_at "en")); (focus (walk_at "en")); (focus (walk_at "sz")))
    | ((with_reducible apply en_slL); (focus (walk_at "ev")); (focus (walk_at "eo")); (focus (walk_at "eo"))))
  | `(tactic| walk_at "eo") => `(tactic| first
    | (with_reducible exact eo_none)
    | ((with_reducible apply eo_some); (focus (walk_at "ev"))))
  | `(tactic| walk_at "et") => `(tactic| first
    | (with_reducible exact et_yes)
    | ((with_reducible apply et_test); (focus (walk_at "ev")))
    | ((with_reducible apply et_B); (focus (walk_at "ev")))
    | ((with_reducible apply et_truB); (focus (walk_at "ev")))
    | ((with_reducible apply et_truT); (focus (walk_at "ev")))
    | ((with_reducible apply et_not); (focus (walk_at "et")))
    | ((with_reducible apply et_and); (focus (walk_at "et")); (focus (intro _; walk_at "et")))
    | ((with_reducible apply et_or); (focus (walk_at "et")); (focus (intro _; walk_at "et"))))
  | `(tactic| walk_at "var") => `(tactic| first
    | ((with_reducible apply ev_varD); (focus (assumption)); (focus (rfl)))
    | ((with_reducible apply ev_varL); (focus (assumption)); (focus (rfl)))
    | ((with_reducible apply ev_varS); (focus (assumption)); (focus (rfl)))
    | ((with_reducible apply ev_varT); (focus (assumption)); (focus (rfl)))
    | ((with_reducible apply ev_varH); (focus (assumption)); (focus (rfl)))
    | ((with_reducible apply ev_varZ); (focus (assumption)); (focus (rfl))))
  | `(tactic| walk_at "ev") => `(tactic| first
    | walk_at "var"
    | (with_reducible exact ev_int)
    | (with_reducible exact ev_bl)
    | (with_reducible exact ev_str)
    | (with_reducible exact ev_non)
    | ((with_reducible apply ev_letters); (focus (walk_at "ev")))
    | ((with_reducible apply ev_pairs); (focus (walk_at "ev")))
    | ((with_reducible apply ev_addI); (focus (walk_at "ev")); (focus (walk_at "ev")))
    | ((with_reducible apply ev_addT); (focus (walk_at "ev")); (focus (walk_at "ev")); (focus (walk_at "sz")))
    | ((with_reducible apply ev_i0); (focus (walk_at "ev")); (focus (walk_at "ev")); (focus (first | exact fun _ => .int _ | exact fun _ => .bl _)))
    | ((with_reducible apply ev_iC); (focus (walk_at "ev")); (focus (walk_at "ev")); (focus (first | assumption | walk_at "cond")); (focus (exact fun _ => .int _)))
    | ((with_reducible apply ev_chain); (focus (walk_at "ev")); (focus (walk_at "ev")); (focus (walk_at "ev")))
    | ((with_reducible apply ev_eqI); (focus (walk_at "ev")); (focus (walk_at "ev")))
    | ((with_reducible apply ev_neI); (focus (walk_at "ev")); (focus (walk_at "ev")))
    | ((with_reducible apply ev_eqR); (focus (walk_at "ev")); (focus (walk_at "ev")))
    | ((with_reducible apply ev_neR); (focus (walk_at "ev")); (focus (walk_at "ev")))
    | ((with_reducible apply ev_isN); (focus (walk_at "ev")))
    | ((with_reducible apply ev_notN); (focus (walk_at "ev")))
    | ((with_reducible apply ev_in2); (focus (walk_at "ev")); (focus (walk_at "ev")); (focus (walk_at "ev")))
    | ((with_reducible apply ev_inP); (focus (walk_at "ev")); (focus (walk_at "ev")))
    | ((with_reducible apply ev_tup); (focus (walk_at "ed")); (focus (simp)))
    | ((with_reducible apply ev_lenT); (focus (walk_at "ev")))
    | ((with_reducible apply ev_lenL); (focus (walk_at "ev")))
    | ((with_reducible apply ev_lenS); (focus (walk_at "ev")))
    | ((with_reducible apply ev_lenN); (focus (walk_at "en")))
    | ((with_reducible apply ev_max2); (focus (walk_at "ev")); (focus (walk_at "ev")))
    | ((with_reducible apply ev_min2); (focus (walk_at "ev")); (focus (walk_at "ev")))
    | ((with_reducible apply ev_int1); (focus (walk_at "ev")))
    | ((with_reducible apply ev_tupleL); (focus (walk_at "ev")))
    | ((with_reducible apply ev_tupleN); (focus (walk_at "en")))
    | ((with_reducible apply ev_countT); (focus (walk_at "ev")); (focus (walk_at "ev")))
    | ((with_reducible apply ev_andV); (focus (walk_at "ev")); (focus (intro _; walk_at "ev")))
    | ((with_reducible apply ev_orV); (focus (walk_at "ev")); (focus (intro _; walk_at "ev")))
    | ((with_reducible apply ev_notV); (focus (walk_at "ev"))))
section
variable {P : Program} {w : World} {K : PySem.W.Frag} {mg : Str → Option Value} {base : Heap}
theorem _root_.L2.Room.units65 {k : Nat} {A : Around} (r : Room k A) : A.units + 65 < cLine := by have := r.un; omega
def isWhole : PyData → Int → Int → Bool
  | .int k, lo, hi => decide (lo ≤ k) && decide (k ≤ hi)
  | _, _, _ => false
abbrev A_is_whole (as : List Ag) (d : PyData) : Prop := ∃ (k lo hi : Int), as = [.c (.d (.int k)), .c (.d (.int lo)), .c (.d (.int hi))] ∧ d = .bool (decide (lo ≤ k) && decide (k ≤ hi))
theorem ok_is_whole (E : Nv K mg) : FnOk P w K mg base CX0 4 E.a_is_whole E.d_is_whole ["value", "low", "high"] (spC K E.C_Trade A_is_whole) := by
  refine E.F_is_whole.ok sc_is_whole (fun vs H Q _ h => ?_) (fun cdv A outer s H vs Q _ hr h => ?_)
  · obtain ⟨as, d, ha, ⟨_, _, _, rfl, _⟩, _⟩ := h
    exact ha.length
  · obtain ⟨as, d, ha, ⟨k, lo, hi, rfl, rfl⟩, q⟩ := h
    obtain ⟨v1, v2, v3, rfl, a1, a2, a3⟩ := ha.three
    refine ⟨_, (pss_cons (ps_if (PW.pt (pw_or (pt_truK K (pe_callB (call_isiK K) (by rfl) E.n_isinstance (by decide +kernel) (pa_cons (pv 0) (pa_cons (pe_bltn (v := .ty "bool") (by rfl) E.n_bool (by decide +kernel) rfl) pa_nil))) (fun _ => rfl)) (pw_or1 (pt_not (pt_truK K (pe_callB (call_isiK K) (by rfl) E.n_isinstance (by decide +kernel) (pa_cons (pv 0) (pa_cons (pe_bltn (v := .ty "int") (by rfl) E.n_int (by decide +kernel) rfl) pa_nil))) (fun _ => rfl)))))) (pss_one (ps_ret pe_bl)) pss_nil)
      (pss_one (ps_ret (pe_chain op_le op_le (pv 1) (pv 0) (pv 2))))), ?_⟩
    have w : Wd K E.C_Trade [] [] H H _ [.d (.int k), .d (.int lo), .d (.int hi)] := Wd.start3 (N := N_is_whole) a1 a2 a3
    refine s_when w (b := false) (et_cast (et_or (et_truB (ev_isiI (b := false) (ev_var w rfl) (by decide +kernel))) (fun _ => et_not (et_truB (ev_isiI (b := true) (ev_var w rfl) (by decide +kernel))))) rfl) (fun z => by cases z) (fun _ H1 w1 => ?_)
    exact s_retQ w1 q (by walk_at "ev")
abbrev A_is_letter (as : List Ag) (d : PyData) : Prop := ∃ (n k : Int), as = [.c (.d (.int n)), .c (.d (.int k))] ∧ d = .bool (decide (0 ≤ k) && decide (k ≤ n - 1))
theorem ok_Trade_letters (E : Nv K mg) : FnOk P w K mg base CX0 1 E.a_Trade_letters E.d_Trade_letters ["self"] (getSp E.C_Trade "_letters") := by
  obtain ⟨oc, od, kV, doc, pm, an, cdv, ct, osl, e, lk, hcd⟩ := E.F_Trade_letters.ex
  rw [e] at lk ⊢
  exact fn_getter lk hcd sc_Trade_letters rfl rfl E.cl E.nl
theorem ok_Trade_pairs (E : Nv K mg) : FnOk P w K mg base CX0 1 E.a_Trade_pairs E.d_Trade_pairs ["self"] (getSp E.C_Trade "_pairs") := by
  obtain ⟨oc, od, kV, doc, pm, an, cdv, ct, osl, e, lk, hcd⟩ := E.F_Trade_pairs.ex
  rw [e] at lk ⊢
  exact fn_getter lk hcd sc_Trade_pairs rfl rfl E.cl E.np
theorem ok_is_letter (E : Nv K mg) : FnOk P w K mg base CX0 8 E.a_is_letter E.d_is_letter ["letters", "value"] (spC K E.C_Trade A_is_letter) := by
  refine E.F_is_letter.ok sc_is_letter (fun vs H Q _ h => ?_) (fun cdv A outer s H vs Q _ hr h => ?_)
  · obtain ⟨as, d, ha, ⟨_, _, rfl, _⟩, _⟩ := h
    exact ha.length
  · obtain ⟨as, d, ha, ⟨n, k, rfl, rfl⟩, q⟩ := h
    obtain ⟨v1, v2, rfl, a1, a2⟩ := ha.two
    refine ⟨_, (pss_one (ps_ret (pe_call (ok_is_whole E) (hr.mono (by first | decide | omega)) (by rfl) E.m_is_whole E.F_is_whole.kp E.b_is_whole .nil pass0 (pa_cons (pv 1) (pa_cons pe_int (pa_cons (pe_op op_sub (pv 0) pe_int) pa_nil)))))), ?_⟩
    have w : Wd K E.C_Trade [] [] H H _ [.d (.int n), .d (.int k)] := Wd.start2 (N := N_is_letter) a1 a2
    exact s_retQ w q (ev_call (by walk_at "ea") ⟨_, _, _, rfl, rfl⟩)
abbrev may (ps : List (Int × Int)) (a b : Int) : Bool := decide ((min a b, max a b) ∈ ps)
abbrev A_may_change (as : List Ag) (d : PyData) : Prop := ∃ (n : Int) (ps : List (Int × Int)) (a b : Int), as = [.c (.t n ps), .c (.d (.int a)), .c (.d (.int b))] ∧ d = .bool (may ps a b)
theorem ok_may_change (E : Nv K mg) : FnOk P w K mg base CX0 8 E.a_may_change E.d_may_change ["trade", "one", "other"] (spC K E.C_Trade A_may_change) := by
  refine E.F_may_change.ok sc_may_change (fun vs H Q _ h => ?_) (fun cdv A outer s H vs Q _ hr h => ?_)
  · obtain ⟨as, d, ha, ⟨_, _, _, _, rfl, _⟩, _⟩ := h
    exact ha.length
  · obtain ⟨as, d, ha, ⟨n, ps, a, b, rfl, rfl⟩, q⟩ := h
    obtain ⟨v1, v2, v3, rfl, a1, a2, a3⟩ := ha.three
    refine ⟨_, (pss_one (ps_ret (pe_cmpR (op_inTK K hr.units65) (pe_tupF (pa_cons (pe_callB (call_min2' rfl) (by rfl) E.n_min (by decide +kernel) (pa_cons (pv 1) (pa_cons (pv 2) pa_nil))) (pa_cons (pe_callB (call_max2' rfl) (by rfl) E.n_max (by decide +kernel) (pa_cons (pv 1) (pa_cons (pv 2) pa_nil))) pa_nil))) (pe_prop (pv 0) E.cl E.p_pairs (ok_Trade_pairs E) (hr.mono (by first | decide | omega)) E.b_Trade_pairs .nil pass0 rfl) (by with_unfolding_all rfl)))), ?_⟩
    have w : Wd K E.C_Trade [] [] H H _ [.t n ps, .d (.int a), .d (.int b)] := Wd.start3 (N := N_may_change) a1 a2 a3
    exact s_retQ w q (by walk_at "ev")
def onlyL (l : List Int) (a b : Int) : List Int := l.filter fun x => decide (x = a ∨ x = b)
theorem kept_int (l : List Int) (f : Int → Bool) : kept f PyData.int l = iL (l.filter f) := rfl
end
end K1
set_option maxRecDepth 10000000
namespace K1
open PySem PySem.Spec PyProof.Rows L2 Pt
local macro_rules
  | `(tactic| walk_at "sz") => `(tactic| first
    | omega
    | decide
    | (simp; omega)
    | (simp [iL, row, pairsD]; omega))
  | `(tactic| walk_at "ea") => `(tactic| first
    | (with_reducible exact ea_nil)
    | ((with_reducible apply ea_consL); (focus (walk_at "ev")); (focus (walk_at "ea")))
    | ((with_reducible apply ea_consS); (focus (walk_at "ev")); (focus (walk_at "ea")))
    | ((with_reducible apply ea_cons); (focus (walk_at "ev")); (focus (walk_at "ea")))
    | ((with_reducible apply ea_consN); (focus (walk_at "en")); (focus (walk_at "ea"))))
  | `(tactic| walk_at "ed") => `(tactic| first
    | (with_reducible exact ed_nil)
    | ((with_reducible apply ed_cons); (focus (walk_at "ev")); (focus (walk_at "ed"))))
  | `(tactic| walk_at "en") => `(tactic| first
    | ((with_reducible apply en_lst); (focus (walk_at "ed")); (focus (simp)))
    | ((with_reducible apply en_listT); (focus (walk_at "ev")))
    | ((with_reducible apply en_addL); (focus (walk_at "ev")); (focus (walk_at "en")); (focus (walk_at "sz")))
    | ((with_reducible apply en_addN); (focus (walk_at "en")); (focus (walk_at "en")); (focus (walk_at "sz")))
    | ((with_reducible apply en_slL); (focus (walk_at "ev")); (focus (walk_at "eo")); (focus (walk_at "eo"))))
  | `(tactic| walk_at "eo") => `(tactic| first
    | (with_reducible exact eo_none)
    | ((with_reducible apply eo_some); (focus (walk_at "ev"))))
  | `(tactic| walk_at "et") => `(tactic| first
    | (with_reducible exact et_yes)
    | ((with_reducible apply et_test); (focus (walk_at "ev")))
    | ((with_reducible apply et_B); (focus (walk_at "ev")))
    | ((with_reducible apply et_truB); (focus (walk_at "ev")))
    | ((with_reducible apply et_truT); (focus (walk_at "ev")))
    | ((with_reducible apply et_not); (focus (walk_at "et")))
    | ((with_reducible apply et_and); (focus (walk_at "et")); (focus (intro _; walk_at "et")))
    | ((with_reducible apply et_or); (focus (walk_at "et")); (focus (intro _; walk_at "et"))))
  | `(tactic| walk_at "var") => `(tactic| first
    | ((with_reducible apply ev_varD); (focus (assumption)); (focus (rfl)))
    | ((with_reducible apply ev_varL); (focus (assumption)); (focus (rfl)))
    | ((with_reducible apply ev_varS); (focus (assumption)); (focus (rfl)))
    | ((with_reducible apply ev_varT); (focus (assumption)); (focus (rfl)))
    | ((with_reducible apply ev_varH); (focus (assumption)); (focus (rfl)))
    | ((with_reducible apply ev_varZ); (focus (assumption)); (focus (rfl))))
  | `(tactic| walk_at "ev") => `(tactic| first
    | walk_at "var"
    | (with_reducible exact ev_int)
    | (with_reducible exact ev_bl)
    | (with_reducible exact ev_str)
    | (with_reducible exact ev_non)
    | ((with_reducible apply ev_letters); (focus (walk_at "ev")))
    | ((with_reducible apply ev_pairs); (focus (walk_at "ev")))
    | ((with_reducible apply ev_addI); (focus (walk_at "ev")); (focus (walk_at "ev")))
    | ((with_reducible apply ev_addT); (focus (walk_at "ev")); (focus (walk_at "ev")); (focus (walk_at "sz")))
    | ((with_reducible apply ev_i0); (focus (walk_at "ev")); (focus (walk_at "ev")); (focus (first | exact fun _ => .int _ | exact fun _ => .bl _)))
    | ((with_reducible apply ev_iC); (focus (walk_at "ev")); (focus (walk_at "ev")); (focus (first | assumption | walk_at "cond")); (focus (exact fun _ => .int _)))
    | ((with_reducible apply ev_chain); (focus (walk_at "ev")); (focus (walk_at "ev")); (focus (walk_at "ev")))
    | ((with_reducible apply ev_eqI); (focus (walk_at "ev")); (focus (walk_at "ev")))
    | ((with_reducible apply ev_neI); (focus (walk_at "ev")); (focus (walk_at "ev")))
    | ((with_reducible apply ev_eqR); (focus (walk_at "ev")); (focus (walk_at "ev")))
    | ((with_reducible apply ev_neR); (focus (walk_at "ev")); (focus (walk_at "ev")))
    | ((with_reducible apply ev_isN); (focus (walk_at "ev")))
    | ((with_reducible apply ev_notN); (focus (walk_at "ev")))
    | ((with_reducible apply ev_in2); (focus (walk_at "ev")); (focus (walk_at "ev")); (focus (walk_at "ev")))
    | ((with_reducible apply ev_inP); (focus (walk_at "ev")); (focus (walk_at "ev")))
    | ((with_reducible apply ev_tup); (focus (walk_at "ed")); (focus (simp)))
    | ((with_reducible apply ev_lenT); (focus (walk_at "ev")))
    | ((with_reducible apply ev_lenL); (focus (walk_at "ev")))
    | ((with_reducible apply ev_lenS); (focus (walk_at "ev")))
    | ((with_reducible apply ev_lenN); (focus (walk_at "en")))
    | ((with_reducible apply ev_max2); (focus (walk_at "ev")); (focus (walk_at "ev")))
    | ((with_reducible apply ev_min2); (focus (walk_at "ev")); (focus (walk_at "ev")))
    | ((with_reducible apply ev_int1); (focus (walk_at "ev")))
    | ((with_reducible apply ev_tupleL); (focus (walk_at "ev")))
    | ((with_reducible apply ev_tupleN); (focus (walk_at "en")))
    | ((with_reducible apply ev_countT); (focus (walk_at "ev")); (focus (walk_at "ev")))
    | ((with_reducible apply ev_andV); (focus (walk_at "ev")); (focus (intro _; walk_at "ev")))
    | ((with_reducible apply ev_orV); (focus (walk_at "ev")); (focus (intro _; walk_at "ev")))
    | ((with_reducible apply ev_notV); (focus (walk_at "ev"))))
section
variable {P : Program} {w : World} {K : PySem.W.Frag} {mg : Str → Option Value} {base : Heap}
end
end K1
set_option maxRecDepth 10000000
namespace K1
open PySem PySem.Spec PyProof.Rows L2 Pt
local macro_rules
  | `(tactic| walk_at "sz") => `(tactic| first
    | omega
    | decide
    | (simp; omega)
    | (simp [iL, row, pairsD]; omega))
  | `(tactic| walk_at "ea") => `(tactic| first
    | (with_reducible exact ea_nil)
    | ((with_reducible apply ea_consL); (focus (walk_at "ev")); (focus (walk_at "ea")))
    | ((with_reducible apply ea_consS); (focus (walk_at "ev")); (focus (walk_at "ea")))
    | ((with_reducible apply ea_cons); (focus (walk_at "ev")); (focus (walk_at "ea")))
    | ((with_reducible apply ea_consN); (focus (walk_at "en")); (focus (walk_at "ea"))))
  | `(tactic| walk_at "ed") => `(tactic| first
    | (with_reducible exact ed_nil)
    | ((with_reducible apply ed_cons); (focus (walk_at "ev")); (focus (walk_at "ed"))))
  | `(tactic| walk_at "en") => `(tactic| first
    | ((with_reducible apply en_lst); (focus (walk_at "ed")); (focus (simp)))
    | ((with_reducible apply en_listT); (focus (walk_at "ev")))
    | ((with_reducible apply en_addL); (focus (walk_at "ev")); (focus (walk_at "en")); (focus (walk_at "sz")))
    | ((with_reducible apply en_addN); (focus (walk_at "en")); (focus (walk_at "en")); (focus (walk_at "sz")))
    | ((with_reducible apply en_slL); (focus (walk_at "ev")); (focus (walk_at "eo")); (focus (walk_at "eo"))))
  | `(tactic| walk_at "eo") => `(tactic| first
    | (with_reducible exact eo_none)
    | ((with_reducible apply eo_some); (focus (walk_at "ev"))))
  | `(tactic| walk_at "et") => `(tactic| first
    | (with_reducible exact et_yes)
    | ((with_reducible apply et_test); (focus (walk_at "ev")))
    | ((with_reducible apply et_B); (focus (walk_at "ev")))
    | ((with_reducible apply et_truB); (focus (walk_at "ev")))
    | ((with_reducible apply et_truT); (focus (walk_at "ev")))
    | ((with_reducible apply et_not); (focus (walk_at "et")))
    | ((with_reducible apply et_and); (focus (walk_at "et")); (focus (intro _; walk_at "et")))
    | ((with_reducible apply et_or); (focus (walk_at "et")); (focus (intro _; walk_at "et"))))
  | `(tactic| walk_at "var") => `(tactic| first
    | ((with_reducible apply ev_varD); (focus (assumption)); (focus (rfl)))
    | ((with_reducible apply ev_varL); (focus (assumption)); (focus (rfl)))
    | ((with_reducible apply ev_varS); (focus (assumption)); (focus (rfl)))
    | ((with_reducible apply ev_varT); (focus (assumption)); (focus (rfl)))
    | ((with_reducible apply ev_varH); (focus (assumption)); (focus (rfl)))
    | ((with_reducible apply ev_varZ); (focus (assumption)); (focus (rfl))))
  | `(tactic| walk_at "ev") => `(tactic| first
    | walk_at "var"
    | (with_reducible exact ev_int)
    | (with_reducible exact ev_bl)
    | (with_reducible exact ev_str)
    | (with_reducible exact ev_non)
    | ((with_reducible apply ev_letters); (focus (walk_at "ev")))
    | ((with_reducible apply ev_pairs); (focus (walk_at "ev")))
    | ((with_reducible apply ev_addI); (focus (walk_at "ev")); (focus (walk_at "ev")))
    | ((with_reducible apply ev_addT); (focus (walk_at "ev")); (focus (walk_at "ev")); (focus (walk_at "sz")))
    | ((with_reducible apply ev_i0); (focus (walk_at "ev")); (focus (walk_at "ev")); (focus (first | exact fun _ => .int _ | exact fun _ => .bl _)))
    | ((with_reducible apply ev_iC); (focus (walk_at "ev")); (focus (walk_at "ev")); (focus (first | assumption | walk_at "cond")); (focus (exact fun _ => .int _)))
    | ((with_reducible apply ev_chain); (focus (walk_at "ev")); (focus (walk_at "ev")); (focus (walk_at "ev")))
    | ((with_reducible apply ev_eqI); (focus (walk_at "ev")); (focus (walk_at "ev")))
    | ((with_reducible apply ev_neI); (focus (walk_at "ev")); (focus (walk_at "ev")))
    | ((with_reducible apply ev_eqR); (focus (walk_at "ev")); (focus (walk_at "ev")))
    | ((with_reducible apply ev_neR); (focus (walk_at "ev")); (focus (walk_at "ev")))
    | ((with_reducible apply ev_isN); (focus (walk_at "ev")))
    | ((with_reducible apply ev_notN); (focus (walk_at "ev")))
    | ((with_reducible apply ev_in2); (focus (walk_at "ev")); (focus (walk_at "ev")); (focus (walk_at "ev")))
    | ((with_reducible apply ev_inP); (focus (walk_at "ev")); (focus (walk_at "ev")))
    | ((with_reducible apply ev_tup); (focus (walk_at "ed")); (focus (simp)))
    | ((with_reducible apply ev_lenT); (focus (walk_at "ev")))
    | ((with_reducible apply ev_lenL); (focus (walk_at "ev")))
    | ((with_reducible apply ev_lenS); (focus (walk_at "ev")))
    | ((with_reducible apply ev_lenN); (focus (walk_at "en")))
    | ((with_reducible apply ev_max2); (focus (walk_at "ev")); (focus (walk_at "ev")))
    | ((with_reducible apply ev_min2); (focus (walk_at "ev")); (focus (walk_at "ev")))
    | ((with_reducible apply ev_int1); (focus (walk_at "ev")))
    | ((with_reducible apply ev_tupleL); (focus (walk_at "ev")))
    | ((with_reducible apply ev_tupleN); (focus (walk_at "en")))
    | ((with_reducible apply ev_countT); (focus (walk_at "ev")); (focus (walk_at "ev")))
    | ((with_reducible apply ev_andV); (focus (walk_at "ev")); (focus (intro _; walk_at "ev")))
    | ((with_reducible apply ev_orV); (focus (walk_at "ev")); (focus (intro _; walk_at "ev")))
    | ((with_reducible apply ev_notV); (focus (walk_at "ev"))))
section
variable {P : Program} {w : World} {K : PySem.W.Frag} {mg : Str → Option Value} {base : Heap}
abbrev A_check_trade (as : List Ag) (d : PyData) : Prop := ∃ (n : Int) (ps : List (Int × Int)), as = [.c (.t n ps)] ∧ d = .none
theorem ok_check_trade (E : Nv K mg) : FnOk P w K mg base CX0 4 E.a_check_trade E.d_check_trade ["trade"] (spC K E.C_Trade A_check_trade) := by
  refine E.F_check_trade.ok sc_check_trade (fun vs H Q _ h => ?_) (fun cdv A outer s H vs Q _ hr h => ?_)
  · obtain ⟨as, d, ha, ⟨_, _, rfl, _⟩, _⟩ := h
    exact ha.length
  · obtain ⟨as, d, ha, ⟨n, ps, rfl, rfl⟩, q⟩ := h
    obtain ⟨v1, rfl, a1⟩ := ha.one
    refine ⟨_, (pss_one (ps_if (pt_not (pt_truK K (pe_callB (call_isiK K) (by rfl) E.n_isinstance (by decide +kernel) (pa_cons (pv 0) (pa_cons (pe_glob (v := .ref E.C_Trade) (by rfl) E.m_Trade rfl) pa_nil))) (fun _ => rfl))) (pss_one ps_never) pss_nil)), ?_⟩
    have w : Wd K E.C_Trade [] [] H H _ [.t n ps] := Wd.start1 (N := N_check_trade) a1
    refine s_if w (b := false) (et_cast (et_not (et_truB (ev_isiTr E.ic (ev_var w rfl)))) rfl) (fun z => by cases z) (fun _ H1 w1 => ?_)
    exact s_next (q .non H1 w1.fr0 .non)
def rowOk (n : Int) (l : List Int) : Prop := l.length ≤ 20 ∧ ∀ x ∈ l, 0 ≤ x ∧ x < n
def inR (n a : Int) : Bool := decide (0 ≤ a) && decide (a ≤ n - 1)
def rowB (n : Int) (l : List Int) : Bool := !decide (20 < (l.length : Int)) && l.all (inR n)
theorem rowB_of {n : Int} {l : List Int} (h : rowOk n l) : rowB n l = true := by
  obtain ⟨hl, hx⟩ := h
  have z : l.all (inR n) = true := List.all_eq_true.mpr fun x m => by
    have := hx x m
    simp [inR]
    omega
  unfold rowB
  rw [z, decide_eq_false (by omega)]
  rfl
abbrev A_is_row (as : List Ag) (d : PyData) : Prop := ∃ (n : Int) (l : List Int), l.length < 1000 ∧ as = [.c (.d (.int n)), .c (.d (row l))] ∧ d = .bool (rowB n l)
theorem ok_is_row (E : Nv K mg) : FnOk P w K mg base CX0 10 E.a_is_row E.d_is_row ["letters", "value"] (spC K E.C_Trade A_is_row) := by
  refine E.F_is_row.ok sc_is_row (fun vs H Q _ h => ?_) (fun cdv A outer s H vs Q _ hr h => ?_)
  · obtain ⟨as, d, ha, ⟨_, _, _, rfl, _⟩, _⟩ := h
    exact ha.length
  · obtain ⟨as, d, ha, ⟨n, l, hl, rfl, rfl⟩, q⟩ := h
    obtain ⟨v1, v2, rfl, a1, a2⟩ := ha.two
    refine ⟨_, (pss_cons (ps_if (PW.pt (pw_or (pt_not (pt_truK K (pe_callB (call_isiK K) (by rfl) E.n_isinstance (by decide +kernel) (pa_cons (pv 1) (pa_cons (pe_bltn (v := .ty "tuple") (by rfl) E.n_tuple (by decide +kernel) rfl) pa_nil))) (fun _ => rfl))) (pw_or1 (pt_cmpR (op_gt) (pe_callB (call_lenK K) (by rfl) E.n_len (by decide +kernel) (pa_cons (pv 1) pa_nil)) (pe_glob (v := .int 20) (by rfl) E.c_MOST_IN_ROW ⟨_, rfl⟩) (nomark _))))) (pss_one (ps_ret pe_bl)) pss_nil)
      (pss_one (ps_ret (pe_callB (call_allK K rfl) (by rfl) E.n_all (by decide +kernel) (pa_cons (pe_lc (own := [("letter", 2)]) (g := gName 2) (by rfl) sc_is_row.nd (pi_tupK K (pv 1)) (blkOk_by (own := [("letter", 2)]) (N := N_is_row) (sc := defScope s_is_row) (by decide +kernel)) (fun _ _ _ _ _ => (pg_name (i := 2) sc_is_row.nd rfl (Or.inl rfl))) (fun _ _ _ _ _ => pts_nil) (fun _ _ _ _ _ => (pe_call (ok_is_letter E) (hr.mono (by first | decide | omega)) (by rfl) E.m_is_letter E.F_is_letter.kp E.b_is_letter .nil pass0 (pa_cons (pv 0) (pa_cons (pv 2) pa_nil))))) pa_nil))))), ?_⟩
    have w : Wd K E.C_Trade [] [] H H _ [.d (.int n), .d (row l), .u] := Wd.start2 (N := N_is_row) a1 a2
    refine s_when w (b := decide (20 < (l.length : Int))) (et_cast (et_or (et_not (et_truB (ev_isiT (b := true) (ev_var w rfl) (by decide +kernel)))) (fun _ => et_test (ev_i0 (ev_lenT (ev_var w rfl)) ev_int (fun _ => .bl _)))) (by rw [iL_len]; rfl)) (fun e H1 w1 => ?_) (fun e H1 w1 => ?_)
    · have z : rowB n l = false := by
        unfold rowB
        rw [e]
        rfl
      rw [z] at q
      exact s_retQ w1 q (by walk_at "ev")
    · have z : rowB n l = l.all (inR n) := by
        unfold rowB
        rw [e]
        rfl
      rw [z] at q
      exact s_retQ w1 q (ev_allK (f := inR n) (l := l) (en_lcT (mk := PyData.int) w1 (ev_var w1 rfl) (fun _ => true) _ (by omega) (fun x _ σ1 H1 w1 => et_yes) (fun x _ σ1 H1 w1 _ => ev_call (by walk_at "ea") ⟨_, _, rfl, rfl⟩)))
abbrev A_check_row (as : List Ag) (d : PyData) : Prop := ∃ (n : Int) (ps : List (Int × Int)) (l : List Int), rowOk n l ∧ as = [.c (.t n ps), .c (.d (row l))] ∧ d = .none
theorem ok_check_row (E : Nv K mg) : FnOk P w K mg base CX0 12 E.a_check_row E.d_check_row ["trade", "row"] (spC K E.C_Trade A_check_row) := by
  refine E.F_check_row.ok sc_check_row (fun vs H Q _ h => ?_) (fun cdv A outer s H vs Q _ hr h => ?_)
  · obtain ⟨as, d, ha, ⟨_, _, _, _, rfl, _⟩, _⟩ := h
    exact ha.length
  · obtain ⟨as, d, ha, ⟨n, ps, l, ho, rfl, rfl⟩, q⟩ := h
    obtain ⟨v1, v2, rfl, a1, a2⟩ := ha.two
    refine ⟨_, (pss_one (ps_if (pt_not (pt_truK K (pe_call (ok_is_row E) (hr.mono (by first | decide | omega)) (by rfl) E.m_is_row E.F_is_row.kp E.b_is_row .nil pass0 (pa_cons (pe_prop (pv 0) E.cl E.p_letters (ok_Trade_letters E) (hr.mono (by first | decide | omega)) E.b_Trade_letters .nil pass0 rfl) (pa_cons (pv 1) pa_nil))) (fun _ => rfl))) (pss_one ps_never) pss_nil)), ?_⟩
    have w : Wd K E.C_Trade [] [] H H _ [.t n ps, .d (row l)] := Wd.start2 (N := N_check_row) a1 a2
    refine s_if w (b := false) (et_cast (et_not (et_truB (ev_call (by walk_at "ea") ⟨n, l, Nat.lt_of_le_of_lt ho.1 (by decide), rfl, rfl⟩))) (by rw [rowB_of ho]; rfl)) (fun z => by cases z) (fun _ H1 w1 => ?_)
    exact s_next (q .non H1 w1.fr0 .non)
def leadGo : Nat → List Int → List Int → List Int
  | _, _, [] => []
  | t, r, x :: ms => (List.range (r.idxOf x)).map (fun i : Nat => ((t + r.idxOf x : Nat) : Int) - 1 - i) ++ leadGo (t + 1) (r.erase x) ms
end
end K1
set_option maxRecDepth 10000000
namespace K1
open PySem PySem.Spec PyProof.Rows L2 Pt
local macro_rules
  | `(tactic| walk_at "sz") => `(tactic| first
    | omega
    | decide
    | (simp; omega)
    | (simp [iL, row, pairsD]; omega))
  | `(tactic| walk_at "ea") => `(tactic| first
    | (with_reducible exact ea_nil)
    | ((with_reducible apply ea_consL); (focus (walk_at "ev")); (focus (walk_at "ea")))
    | ((with_reducible apply ea_consS); (focus (walk_at "ev")); (focus (walk_at "ea")))
    | ((with_reducible apply ea_cons); (focus (walk_at "ev")); (focus (walk_at "ea")))
    | ((with_reducible apply ea_consN); (focus (walk_at "en")); (focus (walk_at "ea"))))
  | `(tactic| walk_at "ed") => `(tactic| first
    | (with_reducible exact ed_nil)
    | ((with_reducible apply ed_cons); (focus (walk_at "ev")); (focus (walk_at "ed"))))
  | `(tactic| walk_at "en") => `(tactic| first
    | ((with_reducible apply en_lst); (focus (walk_at "ed")); (focus (simp)))
    | ((with_reducible apply en_listT); (focus (walk_at "ev")))
    | ((with_reducible apply en_addL); (focus (walk_at "ev")); (focus (walk_at "en")); (focus (walk_at "sz")))
    | ((with_reducible apply en_addN); (focus (walk_at "en")); (focus (walk_at "en")); (focus (walk_at "sz")))
    | ((with_reducible apply en_slL); (focus (walk_at "ev")); (focus (walk_at "eo")); (focus (walk_at "eo"))))
  | `(tactic| walk_at "eo") => `(tactic| first
    | (with_reducible exact eo_none)
    | ((with_reducible apply eo_some); (focus (walk_at "ev"))))
  | `(tactic| walk_at "et") => `(tactic| first
    | (with_reducible exact et_yes)
    | ((with_reducible apply et_test); (focus (walk_at "ev")))
    | ((with_reducible apply et_B); (focus (walk_at "ev")))
    | ((with_reducible apply et_truB); (focus (walk_at "ev")))
    | ((with_reducible apply et_truT); (focus (walk_at "ev")))
    | ((with_reducible apply et_not); (focus (walk_at "et")))
    | ((with_reducible apply et_and); (focus (walk_at "et")); (focus (intro _; walk_at "et")))
    | ((with_reducible apply et_or); (focus (walk_at "et")); (focus (intro _; walk_at "et"))))
  | `(tactic| walk_at "var") => `(tactic| first
    | ((with_reducible apply ev_varD); (focus (assumption)); (focus (rfl)))
    | ((with_reducible apply ev_varL); (focus (assumption)); (focus (rfl)))
    | ((with_reducible apply ev_varS); (focus (assumption)); (focus (rfl)))
    | ((with_reducible apply ev_varT); (focus (assumption)); (focus (rfl)))
    | ((with_reducible apply ev_varH); (focus (assumption)); (focus (rfl)))
    | ((with_reducible apply ev_varZ); (focus (assumption)); (focus (rfl))))
  | `(tactic| walk_at "ev") => `(tactic| first
    | walk_at "var"
    | (with_reducible exact ev_int)
    | (with_reducible exact ev_bl)
    | (with_reducible exact ev_str)
    | (with_reducible exact ev_non)
    | ((with_reducible apply ev_letters); (focus (walk_at "ev")))
    | ((with_reducible apply ev_pairs); (focus (walk_at "ev")))
    | ((with_reducible apply ev_addI); (focus (walk_at "ev")); (focus (walk_at "ev")))
    | ((with_reducible apply ev_addT); (focus (walk_at "ev")); (focus (walk_at "ev")); (focus (walk_at "sz")))
    | ((with_reducible apply ev_i0); (focus (walk_at "ev")); (focus (walk_at "ev")); (focus (first | exact fun _ => .int _ | exact fun _ => .bl _)))
    | ((with_reducible apply ev_iC); (focus (walk_at "ev")); (focus (walk_at "ev")); (focus (first | assumption | walk_at "cond")); (focus (exact fun _ => .int _)))
    | ((with_reducible apply ev_chain); (focus (walk_at "ev")); (focus (walk_at "ev")); (focus (walk_at "ev")))
    | ((with_reducible apply ev_eqI); (focus (walk_at "ev")); (focus (walk_at "ev")))
    | ((with_reducible apply ev_neI); (focus (walk_at "ev")); (focus (walk_at "ev")))
    | ((with_reducible apply ev_eqR); (focus (walk_at "ev")); (focus (walk_at "ev")))
    | ((with_reducible apply ev_neR); (focus (walk_at "ev")); (focus (walk_at "ev")))
    | ((with_reducible apply ev_isN); (focus (walk_at "ev")))
    | ((with_reducible apply ev_notN); (focus (walk_at "ev")))
    | ((with_reducible apply ev_in2); (focus (walk_at "ev")); (focus (walk_at "ev")); (focus (walk_at "ev")))
    | ((with_reducible apply ev_inP); (focus (walk_at "ev")); (focus (walk_at "ev")))
    | ((with_reducible apply ev_tup); (focus (walk_at "ed")); (focus (simp)))
    | ((with_reducible apply ev_lenT); (focus (walk_at "ev")))
    | ((with_reducible apply ev_lenL); (focus (walk_at "ev")))
    | ((with_reducible apply ev_lenS); (focus (walk_at "ev")))
    | ((with_reducible apply ev_lenN); (focus (walk_at "en")))
    | ((with_reducible apply ev_max2); (focus (walk_at "ev")); (focus (walk_at "ev")))
    | ((with_reducible apply ev_min2); (focus (walk_at "ev")); (focus (walk_at "ev")))
    | ((with_reducible apply ev_int1); (focus (walk_at "ev")))
    | ((with_reducible apply ev_tupleL); (focus (walk_at "ev")))
    | ((with_reducible apply ev_tupleN); (focus (walk_at "en")))
    | ((with_reducible apply ev_countT); (focus (walk_at "ev")); (focus (walk_at "ev")))
    | ((with_reducible apply ev_andV); (focus (walk_at "ev")); (focus (intro _; walk_at "ev")))
    | ((with_reducible apply ev_orV); (focus (walk_at "ev")); (focus (intro _; walk_at "ev")))
    | ((with_reducible apply ev_notV); (focus (walk_at "ev"))))
section
variable {P : Program} {w : World} {K : PySem.W.Frag} {mg : Str → Option Value} {base : Heap}
abbrev A_is_pair (as : List Ag) (d : PyData) : Prop := ∃ (n a b : Int), as = [.c (.d (.int n)), .c (.d (row [a, b]))] ∧ d = .bool ([a, b].all (inR n) && decide (a < b))
theorem ok_is_pair (E : Nv K mg) : FnOk P w K mg base CX0 12 E.a_is_pair E.d_is_pair ["letters", "value"] (spC K E.C_Trade A_is_pair) := by
  refine E.F_is_pair.ok sc_is_pair (fun vs H Q _ h => ?_) (fun cdv A outer s H vs Q _ hr h => ?_)
  · obtain ⟨as, d, ha, ⟨_, _, _, rfl, _⟩, _⟩ := h
    exact ha.length
  · obtain ⟨as, d, ha, ⟨n, a, b, rfl, rfl⟩, q⟩ := h
    obtain ⟨v1, v2, rfl, a1, a2⟩ := ha.two
    refine ⟨_, (pss_cons (ps_if (PW.pt (pw_or (pt_not (pt_truK K (pe_callB (call_isiK K) (by rfl) E.n_isinstance (by decide +kernel) (pa_cons (pv 1) (pa_cons (pe_bltn (v := .ty "tuple") (by rfl) E.n_tuple (by decide +kernel) rfl) pa_nil))) (fun _ => rfl))) (pw_or1 (pt_cmpR (op_neK K hr.units) (pe_callB (call_lenK K) (by rfl) E.n_len (by decide +kernel) (pa_cons (pv 1) pa_nil)) pe_int (nomark _))))) (pss_one (ps_ret pe_bl)) pss_nil)
      (pss_cons (ps_if (pt_not (pt_truK K (pe_callB (call_allK K rfl) (by rfl) E.n_all (by decide +kernel) (pa_cons (pe_lc (own := [("letter", 2)]) (g := gName 2) (by rfl) sc_is_pair.nd (pi_tupK K (pv 1)) (blkOk_by (own := [("letter", 2)]) (N := N_is_pair) (sc := defScope s_is_pair) (by decide +kernel)) (fun _ _ _ _ _ => (pg_name (i := 2) sc_is_pair.nd rfl (Or.inl rfl))) (fun _ _ _ _ _ => pts_nil) (fun _ _ _ _ _ => (pe_call (ok_is_letter E) (hr.mono (by first | decide | omega)) (by rfl) E.m_is_letter E.F_is_letter.kp E.b_is_letter .nil pass0 (pa_cons (pv 0) (pa_cons (pv 2) pa_nil))))) pa_nil)) (fun _ => rfl))) (pss_one (ps_ret pe_bl)) pss_nil)
      (pss_one (ps_ret (pe_cmpR (op_lt) (pe_ix (ix_K K) (pv 1) pe_int (fun _ _ => rfl)) (pe_ix (ix_K K) (pv 1) pe_int (fun _ _ => rfl)) (nomark _)))))), ?_⟩
    have w : Wd K E.C_Trade [] [] H H _ [.d (.int n), .d (row [a, b]), .u] := Wd.start2 (N := N_is_pair) a1 a2
    refine s_when w (b := false) (et_cast (et_or (et_not (et_truB (ev_isiT (b := true) (ev_var w rfl) (by decide +kernel)))) (fun _ => et_test (ev_neI (ev_lenT (ev_var w rfl)) ev_int))) rfl) (fun z => by cases z) (fun _ H1 w1 => ?_)
    refine s_when w1 (b := !([a, b].all (inR n))) (et_not (et_truB (ev_allK (f := inR n) (l := [a, b]) (en_lcT (mk := PyData.int) w1 (ev_var w1 rfl) (fun _ => true) _ (by simp) (fun x _ σ1 H1 w1 => et_yes) (fun x _ σ1 H1 w1 _ => ev_call (by walk_at "ea") ⟨_, _, rfl, rfl⟩))))) (fun e H2 w2 => ?_) (fun e H2 w2 => ?_)
    · have z : [a, b].all (inR n) = false := by
        revert e
        cases [a, b].all (inR n) <;> intro e
        · rfl
        · cases e
      rw [z, Bool.false_and] at q
      exact s_retQ w2 q (by walk_at "ev")
    · have z : [a, b].all (inR n) = true := by
        revert e
        cases [a, b].all (inR n) <;> intro e
        · cases e
        · rfl
      rw [z, Bool.true_and] at q
      exact s_retQ w2 q (ev_i0 (ev_ixT (ev_var w2 rfl) ev_int (d := .int a) rfl) (ev_ixT (ev_var w2 rfl) ev_int (d := .int b) rfl) (fun _ => .bl _))
def ltP (p q : Int × Int) : Prop := p.1 < q.1 ∨ (p.1 = q.1 ∧ p.2 < q.2)
def PairsOk (n : Int) (ps : List (Int × Int)) : Prop := (∀ p ∈ ps, 0 ≤ p.1 ∧ p.1 < p.2 ∧ p.2 < n) ∧ ps.Pairwise ltP ∧ ps.length ≤ 1000
theorem lexAt2 (e r : Nat → Bool) (z : Bool) : Ob.lexAt e r z 0 2 = if e 0 = true then (if e 1 = true then z else r 1) else r 0 := rfl
theorem ev_leP {C : Addr} {H : Hp} {σ : L2.St} {ta tb : TE} {p q : Int × Int} (ha : EvC K C ta σ H (.d (Pt.pairD p))) (hb : EvC K C tb σ H (.d (Pt.pairD q))) (lt : ltP q p) : EvC K C (tOp (rLeT K) ta tb) σ H (.d (.bool false)) :=
  ev_op2 ha hb fun H1 _ x y a1 a2 Q k => by
    obtain ⟨a, xs, rfl, s, t⟩ := Td.tup_of a1
    obtain ⟨b, ys, rfl, s', t'⟩ := Td.tup_of a2
    have e1 : xs = [p.1, p.2].map V.int := TdAll.iL_of (l := [p.1, p.2]) t
    have e2 : ys = [q.1, q.2].map V.int := TdAll.iL_of (l := [q.1, q.2]) t'
    rw [e1] at s
    rw [e2] at s'
    refine ⟨a, b, [p.1, p.2], [q.1, q.2], rfl, rfl, s.sq, s'.sq, ?_⟩
    have z : Ob.lexAt (fun j => decide ([p.1, p.2].getD j 0 = [q.1, q.2].getD j 0)) (fun j => decide ([p.1, p.2].getD j 0 ≤ [q.1, q.2].getD j 0)) (decide ([p.1, p.2].length ≤ [q.1, q.2].length)) 0 (min [p.1, p.2].length [q.1, q.2].length) = false := by
      show Ob.lexAt _ _ _ 0 2 = false
      rw [lexAt2]
      unfold ltP at lt
      simp only [List.getD_cons_zero, List.getD_cons_succ, decide_eq_true_eq]
      split
      · split
        · omega
        · simp
          omega
      · simp
        omega
    rw [z]
    exact k _ H1 (Same.refl H1) (.bl _)
abbrev A_check_pairs (as : List Ag) (d : PyData) : Prop := ∃ (n : Int) (ps : List (Int × Int)), PairsOk n ps ∧ as = [.c (.d (.int n)), .c (.d (pairsD ps))] ∧ d = .none
theorem ok_check_pairs (E : Nv K mg) : FnOk P w K mg base CX0 16 E.a_check_pairs E.d_check_pairs ["letters", "pairs"] (spC K E.C_Trade A_check_pairs) := by
  refine E.F_check_pairs.ok sc_check_pairs (fun vs H Q _ h => ?_) (fun cdv A outer s H vs Q _ hr h => ?_)
  · obtain ⟨as, d, ha, ⟨_, _, _, rfl, _⟩, _⟩ := h
    exact ha.length
  · obtain ⟨as, d, ha, ⟨n, ps, ⟨hin, hso, hle⟩, rfl, rfl⟩, q⟩ := h
    obtain ⟨v1, v2, rfl, a1, a2⟩ := ha.two
    refine ⟨_, (pss_cons (ps_if (pt_not (pt_truK K (pe_callB (call_isiK K) (by rfl) E.n_isinstance (by decide +kernel) (pa_cons (pv 1) (pa_cons (pe_bltn (v := .ty "tuple") (by rfl) E.n_tuple (by decide +kernel) rfl) pa_nil))) (fun _ => rfl))) (pss_one ps_never) pss_nil)
      (pss_one (ps_for PassesOwn.never rfl (pi_enumTK K (by rfl) E.n_enumerate (pa_cons (pv 1) pa_nil)) (pg_tupK K (n := 2) rfl (pgs_cons (pg_name (i := 2) sc_check_pairs.nd rfl (.inl rfl)) (pgs_cons (pg_name (i := 3) sc_check_pairs.nd rfl (.inl rfl)) pgs_nil)))
      (pss_cons (ps_if (pt_not (pt_truK K (pe_call (ok_is_pair E) (hr.mono (by first | decide | omega)) (by rfl) E.m_is_pair E.F_is_pair.kp E.b_is_pair .nil pass0 (pa_cons (pv 0) (pa_cons (pv 3) pa_nil))) (fun _ => rfl))) (pss_one ps_never) pss_nil)
      (pss_one (ps_if (PW.pt (pw_and (pt_cmpR (op_gt) (pv 2) pe_int (nomark _)) (pw_and1 (pt_cmpR (op_leTK K hr.units0) (pv 3) (pe_ix (ix_K K) (pv 1) (pe_op op_sub (pv 2) pe_int) (fun _ _ => rfl)) (nomark _))))) (pss_one ps_never) pss_nil)))))), ?_⟩
    have w : Wd K E.C_Trade [] [] H H _ [.d (.int n), .d (pairsD ps), .u, .u] := Wd.start2 (N := N_check_pairs) a1 a2
    refine s_when w (b := false) (et_cast (et_not (et_truB (ev_isiT (b := true) (ev_var w rfl) (by decide +kernel)))) rfl) (fun z => by cases z) (fun _ H1 w1 => ?_)
    refine s_forE w1 (ev_var w1 rfl) (fun a t σ H' => ∃ c2 c3, Wd K E.C_Trade [] [(.ref a, pairsD ps)] H H' σ [.d (.int n), .d (pairsD ps), c2, c3]) (fun a H1 w1 => ⟨_, _, w1⟩) (fun a k σ' H' ⟨_, _, w1⟩ => w1.gh0) ?_ ?_
    · rintro a t d v σ' H' H3 hd tv ⟨c2, c3, w2⟩ e3
      have ht : t < ps.length := by
        have := (List.getElem?_eq_some_iff.mp hd).1
        rw [List.length_map] at this
        exact this
      have ed : d = Pt.pairD ps[t] := by
        rw [List.getElem?_map, List.getElem?_eq_getElem ht] at hd
        exact (Option.some.inj hd).symm
      subst ed
      have w3 : Wd K E.C_Trade [] [(.ref a, pairsD ps)] H H3 _ [.d (.int n), .d (pairsD ps), .d (.int (t : Nat)), .d (Pt.pairD ps[t])] := ((w2.mono e3).set 2 (v := .int (t : Nat)) (c := .d (.int (t : Nat))) (Td.int _)).set 3 tv
      have hp := hin ps[t] (List.getElem_mem ht)
      have hz : ([ps[t].1, ps[t].2].all (inR n) && decide (ps[t].1 < ps[t].2)) = true := by
        simp [inR]
        omega
      refine s_when w3 (b := false) (et_cast (et_not (et_truB (ev_call (ea_cons (ev_var w3 rfl) (ea_cons (c := .d (row [ps[t].1, ps[t].2])) (ev_var w3 rfl) ea_nil)) ⟨_, _, _, rfl, rfl⟩))) (by rw [hz]; rfl)) (fun z => by cases z) (fun _ H4 w4 => ?_)
      refine s_if w4 (b := false) (et_cast (et_and (a := decide ((0 : Int) < (t : Int))) (b := false) (et_test (ev_i0 (ev_var w4 rfl) ev_int (fun _ => .bl _))) (fun z => ?_)) (Bool.and_false _)) (fun z => by cases z) (fun _ H5 w5 => ?_)
      · have h1 : 0 < t := by simpa using z
        have h2 : t - 1 < ps.length := by omega
        have lt : ltP ps[t - 1] ps[t] := List.pairwise_iff_getElem.mp hso (t - 1) t h2 ht (by omega)
        refine et_test (ev_leP (ev_var w4 rfl) (q := ps[t - 1]) (ev_ixT (ev_var w4 rfl) (ev_i0 (ev_var w4 rfl) ev_int (fun _ => .int _)) ?_) lt)
        have e : ((t : Nat) : Int) - 1 = ((t - 1 : Nat) : Int) := by omega
        show atI (ps.map Pt.pairD) (((t : Nat) : Int) - 1) = _
        rw [e]
        exact atI_nat (by rw [List.getElem?_map, List.getElem?_eq_getElem h2]; rfl)
      · exact s_next ⟨_, _, w5⟩
    · rintro a σ' H' ⟨c2, c3, w2⟩
      exact q .non H' w2.fr0 .non
def spInit (K : PySem.W.Frag) (C : Addr) : Sp := fun vs H Q _ => ∃ (p dx : Addr) (n : Int) (ps : List (Int × Int)) (v1 v2 : V), vs = [.ref p, v1, v2] ∧ H p = some (.ins C dx []) ∧ Td K H v1 (.int n) ∧ Td K H v2 (pairsD ps) ∧ 1 ≤ n ∧ n ≤ 6 ∧ PairsOk n ps ∧
  ∀ H', (∀ b o, H b = some o → b ≠ p → H' b = some o) → (∃ q, H' p = some (.ins C dx (flds n q)) ∧ Td K H' (.ref q) (pairsD ps)) → Q .non H'
theorem putF_flds (n : Int) (q : Addr) : putF "_pairs" (.ref q) (putF "_letters" (.int n) []) = flds n q := by
  show (if ("_letters" : Str) = "_pairs" then _ else _) = _
  rw [if_neg (fun e => by have := kne; rw [e, beq_self_eq_true] at this; cases this)]
  rfl
theorem Tx.ins {H : Hp} {p : Addr} {o : HO} {C dx : Addr} {fs : List (Str × V)} (h : H p = some (.ins C dx fs)) : Tx H (upd H p o) := fun a ob u e => by rw [upd_ne (ne_of e h (fun z => by cases z))]; exact e
theorem ok_Trade___init__ (E : Nv K mg) : FnOk P w K mg base CX0 20 E.a_Trade___init__ E.d_Trade___init__ ["self", "letters", "pairs"] (spInit K E.C_Trade) := by
  refine E.F_Trade___init__.ok sc_Trade___init__ (fun vs H Q _ h => ?_) (fun cdv A outer s H vs Q _ hr h => ?_)
  · obtain ⟨_, _, _, _, _, _, rfl, _⟩ := h
    rfl
  · obtain ⟨p, dx, n, ps, v1, v2, rfl, hp, t1, t2, h1, h6, hok, q⟩ := h
    refine ⟨_, (pss_cons (ps_if (pt_not (pt_truK K (pe_call (ok_is_whole E) (hr.mono (by first | decide | omega)) (by rfl) E.m_is_whole E.F_is_whole.kp E.b_is_whole .nil pass0 (pa_cons (pv 1) (pa_cons pe_int (pa_cons (pe_glob (v := .int 6) (by rfl) E.c_MOST_LETTERS ⟨_, rfl⟩) pa_nil)))) (fun _ => rfl))) (pss_one ps_never) pss_nil)
      (pss_cons (ps_expr (pe_call (ok_check_pairs E) (hr.mono (by first | decide | omega)) (by rfl) E.m_check_pairs E.F_check_pairs.kp E.b_check_pairs .nil pass0 (pa_cons (pv 1) (pa_cons (pv 2) pa_nil))))
      (pss_cons (ps_fld (pv 0) (pv 1) rfl)
      (pss_one (ps_fld (pv 0) (pv 2) rfl))))), ?_⟩
    have w : Wd K E.C_Trade [] [] H H _ [.r (.ref p), .d (.int n), .d (pairsD ps)] := Wd.start3 (N := N_Trade___init__) (c1 := .r (.ref p)) (c2 := .d (.int n)) (c3 := .d (pairsD ps)) rfl t1 t2
    refine s_when w (b := false) (et_cast (et_not (et_truB (ev_call (by walk_at "ea") ⟨n, 1, 6, rfl, rfl⟩))) (by simp; omega)) (fun z => by cases z) (fun _ H1 w1 => ?_)
    refine q_drop w1 (ev_call (by walk_at "ea") ⟨_, _, hok, rfl, rfl⟩) fun H2 w2 => ?_
    obtain ⟨x1, e1, s1⟩ := w2.get (i := 1) rfl
    obtain ⟨x2, e2, s2⟩ := w2.get (i := 2) rfl
    obtain ⟨x0, e0, rfl⟩ := w2.get (i := 0) rfl
    have hp2 : H2 p = some (.ins E.C_Trade dx []) := w2.fr0 _ _ hp
    rw [Td.int_of s1] at e1
    obtain ⟨qa, ys, rfl, sq, _⟩ := Td.tup_of s2
    refine ⟨.int n, e1, .ref p, e0, p, E.C_Trade, dx, [], rfl, hp2, E.cl, E.nl, by decide, ?_⟩
    refine ⟨.ref qa, e2, .ref p, e0, p, E.C_Trade, dx, _, rfl, upd_same, E.cl, E.np, by show 1 < 1000; decide, ?_⟩
    refine q _ (fun b o hb ne => ?_) ⟨qa, ?_, ?_⟩
    · rw [upd_upd, upd_ne ne]
      exact w2.fr0 _ _ hb
    · rw [upd_same, putF_flds]
    · rw [upd_upd]
      exact Td.mono (Tx.ins hp2) _ _ s2
theorem ev_makeT {C : Addr} {H : Hp} {σ : L2.St} {ta tb : TE} {E : XK} {n : Int} {ps : List (Int × Int)} (ha : EvC K C ta σ H (.d (.int n))) (hb : EvC K C tb σ H (.d (pairsD ps))) (h1 : 1 ≤ n) (h6 : n ≤ 6) (hok : PairsOk n ps) : EvC K C (tMake C (spInit K C) [] E (tCons ta (tCons tb tNil))) σ H (.t n ps) := fun H1 e1 Q q =>
  ha H1 e1 _ fun v H2 e2 a => hb H2 (e1.trans e2) _ fun y H3 e3 b => fun x dx nx ndx nex => by
    have s3 : Same H3 (upd (upd H3 dx (.own x)) x (.ins C dx [])) := fun c o e => by
      rw [upd_ne (ne_of_none e nx), upd_ne (ne_of_none e ndx)]
      exact e
    refine ⟨x, dx, n, ps, v, y, rfl, upd_same, Td.mono (.of (e3.trans s3)) _ _ a, Td.mono (.of s3) _ _ b, h1, h6, hok, fun H' k1 ⟨r, k2, k3⟩ => ⟨rfl, ?_⟩⟩
    exact q _ H' ((e2.trans e3).trans fun c o e => k1 c o (s3 c o e) (ne_of_none e nx)) ⟨x, dx, r, rfl, k2, k3⟩
theorem eqv_pairs : ∀ ps qs : List (Int × Int), PyData.eqv (pairsD ps) (pairsD qs) = decide (ps = qs) := by
  have z : ∀ ps qs : List (Int × Int), PyData.eqvAll (ps.map Pt.pairD) (qs.map Pt.pairD) = decide (ps = qs) := by
    intro ps
    induction ps with
    | nil => intro qs; cases qs <;> simp [PyData.eqvAll]
    | cons p ps ih =>
      intro qs
      cases qs with
      | nil => simp [PyData.eqvAll]
      | cons q qs =>
        have e : PyData.eqv (Pt.pairD p) (Pt.pairD q) = decide (p = q) := by
          have z := eqv_row [p.1, p.2] [q.1, q.2]
          show PyData.eqv (row [p.1, p.2]) (row [q.1, q.2]) = _
          rw [z]
          obtain ⟨a, b⟩ := p
          obtain ⟨c, d⟩ := q
          simp
        simp only [List.map_cons, PyData.eqvAll, e, ih]
        by_cases h : p = q <;> simp [h]
  intro ps qs
  show PyData.eqv (.tuple _) (.tuple _) = _
  simp only [PyData.eqv]
  exact z ps qs
end
end K1
set_option maxRecDepth 10000000
namespace K1
open PySem PySem.Spec PyProof.Rows L2 Pt
local macro_rules
  | `(tactic| walk_at "sz") => `(tactic| first
    | omega
    | decide
    | (simp; omega)
    | (simp [iL, row, pairsD]; omega))
  | `(tactic| walk_at "ea") => `(tactic| first
    | (with_reducible exact ea_nil)
    | ((with_reducible apply ea_consL); (focus (walk_at "ev")); (focus (walk_at "ea")))
    | ((with_reducible apply ea_consS); (focus (walk_at "ev")); (focus (walk_at "ea")))
    | ((with_reducible apply ea_cons); (focus (walk_at "ev")); (focus (walk_at "ea")))
    | ((with_reducible apply ea_consN); (focus (walk_at "en")); (focus (walk_at "ea"))))
  | `(tactic| walk_at "ed") => `(tactic| first
    | (with_reducible exact ed_nil)
    | ((with_reducible apply ed_cons); (focus (walk_at "ev")); (focus (walk_at "ed"))))
  | `(tactic| walk_at "en") => `(tactic| first
    | ((with_reducible apply en_lst); (focus (walk_at "ed")); (focus (simp)))
    | ((with_reducible apply en_listT); (focus (walk_at "ev")))
    | ((with_reducible apply en_addL); (focus (walk_at "ev")); (focus (walk_at "en")); (focus (walk_at "sz")))
    | ((with_reducible apply en_addN); (focus (walk_at "en")); (focus (walk_at "en")); (focus (walk_at "sz")))
    | ((with_reducible apply en_slL); (focus (walk_at "ev")); (focus (walk_at "eo")); (focus (walk_at "eo"))))
  | `(tactic| walk_at "eo") => `(tactic| first
    | (with_reducible exact eo_none)
    | ((with_reducible apply eo_some); (focus (walk_at "ev"))))
  | `(tactic| walk_at "et") => `(tactic| first
    | (with_reducible exact et_yes)
    | ((with_reducible apply et_test); (focus (walk_at "ev")))
    | ((with_reducible apply et_B); (focus (walk_at "ev")))
    | ((with_reducible apply et_truB); (focus (walk_at "ev")))
    | ((with_reducible apply et_truT); (focus (walk_at "ev")))
    | ((with_reducible apply et_not); (focus (walk_at "et")))
    | ((with_reducible apply et_and); (focus (walk_at "et")); (focus (intro _; walk_at "et")))
    | ((with_reducible apply et_or); (focus (walk_at "et")); (focus (intro _; walk_at "et"))))
  | `(tactic| walk_at "var") => `(tactic| first
    | ((with_reducible apply ev_varD); (focus (assumption)); (focus (rfl)))
    | ((with_reducible apply ev_varL); (focus (assumption)); (focus (rfl)))
    | ((with_reducible apply ev_varS); (focus (assumption)); (focus (rfl)))
    | ((with_reducible apply ev_varT); (focus (assumption)); (focus (rfl)))
    | ((with_reducible apply ev_varH); (focus (assumption)); (focus (rfl)))
    | ((with_reducible apply ev_varZ); (focus (assumption)); (focus (rfl))))
  | `(tactic| walk_at "ev") => `(tactic| first
    | walk_at "var"
    | (with_reducible exact ev_int)
    | (with_reducible exact ev_bl)
    | (with_reducible exact ev_str)
    | (with_reducible exact ev_non)
    | ((with_reducible apply ev_letters); (focus (walk_at "ev")))
    | ((with_reducible apply ev_pairs); (focus (walk_at "ev")))
    | ((with_reducible apply ev_addI); (focus (walk_at "ev")); (focus (walk_at "ev")))
    | ((with_reducible apply ev_addT); (focus (walk_at "ev")); (focus (walk_at "ev")); (focus (walk_at "sz")))
    | ((with_reducible apply ev_i0); (focus (walk_at "ev")); (focus (walk_at "ev")); (focus (first | exact fun _ => .int _ | exact fun _ => .bl _)))
    | ((with_reducible apply ev_iC); (focus (walk_at "ev")); (focus (walk_at "ev")); (focus (first | assumption | walk_at "cond")); (focus (exact fun _ => .int _)))
    | ((with_reducible apply ev_chain); (focus (walk_at "ev")); (focus (walk_at "ev")); (focus (walk_at "ev")))
    | ((with_reducible apply ev_eqI); (focus (walk_at "ev")); (focus (walk_at "ev")))
    | ((with_reducible apply ev_neI); (focus (walk_at "ev")); (focus (walk_at "ev")))
    | ((with_reducible apply ev_eqR); (focus (walk_at "ev")); (focus (walk_at "ev")))
    | ((with_reducible apply ev_neR); (focus (walk_at "ev")); (focus (walk_at "ev")))
    | ((with_reducible apply ev_isN); (focus (walk_at "ev")))
    | ((with_reducible apply ev_notN); (focus (walk_at "ev")))
    | ((with_reducible apply ev_in2); (focus (walk_at "ev")); (focus (walk_at "ev")); (focus (walk_at "ev")))
    | ((with_reducible apply ev_inP); (focus (walk_at "ev")); (focus (walk_at "ev")))
    | ((with_reducible apply ev_tup); (focus (walk_at "ed")); (focus (simp)))
    | ((with_reducible apply ev_lenT); (focus (walk_at "ev")))
    | ((with_reducible apply ev_lenL); (focus (walk_at "ev")))
    | ((with_reducible apply ev_lenS); (focus (walk_at "ev")))
    | ((with_reducible apply ev_lenN); (focus (walk_at "en")))
    | ((with_reducible apply ev_max2); (focus (walk_at "ev")); (focus (walk_at "ev")))
    | ((with_reducible apply ev_min2); (focus (walk_at "ev")); (focus (walk_at "ev")))
    | ((with_reducible apply ev_int1); (focus (walk_at "ev")))
    | ((with_reducible apply ev_tupleL); (focus (walk_at "ev")))
    | ((with_reducible apply ev_tupleN); (focus (walk_at "en")))
    | ((with_reducible apply ev_countT); (focus (walk_at "ev")); (focus (walk_at "ev")))
    | ((with_reducible apply ev_andV); (focus (walk_at "ev")); (focus (intro _; walk_at "ev")))
    | ((with_reducible apply ev_orV); (focus (walk_at "ev")); (focus (intro _; walk_at "ev")))
    | ((with_reducible apply ev_notV); (focus (walk_at "ev"))))
section
variable {P : Program} {w : World} {K : PySem.W.Frag} {mg : Str → Option Value} {base : Heap}
def mayL (ps : List (Int × Int)) (a b : Int) : Bool := decide ((a, b) ∈ ps) || decide ((b, a) ∈ ps)
theorem mayL_eq {n : Int} {ps : List (Int × Int)} (h : PairsOk n ps) (a b : Int) : mayL ps a b = may ps a b := by
  have hlt : ∀ {x y : Int}, (x, y) ∈ ps → x < y := fun {x y} m => (h.1 _ m).2.1
  unfold mayL may
  rcases Int.lt_trichotomy a b with z | z | z
  · rw [Int.min_eq_left (by omega), Int.max_eq_right (by omega), decide_eq_false (p := (b, a) ∈ ps) (fun m => by have := hlt m; omega), Bool.or_false]
  · subst z
    rw [Int.min_eq_left (by omega), Int.max_eq_right (by omega), Bool.or_self]
  · rw [Int.min_eq_right (by omega), Int.max_eq_left (by omega), decide_eq_false (p := (a, b) ∈ ps) (fun m => by have := hlt m; omega), Bool.false_or]
abbrev A_law_may (as : List Ag) (d : PyData) : Prop := ∃ (ps : List (Int × Int)) (a b : Int), as = [.c (.d (pairsD ps)), .c (.d (.int a)), .c (.d (.int b))] ∧ d = .bool (mayL ps a b)
theorem ok__law_may (E : Nv K mg) : FnOk P w K mg base CX0 8 E.a__law_may E.d__law_may ["_law_pairs_here", "_law_a", "_law_b"] (spC K E.C_Trade A_law_may) := by
  refine E.F__law_may.ok sc__law_may (fun vs H Q _ h => ?_) (fun cdv A outer s H vs Q _ hr h => ?_)
  · obtain ⟨as, d, ha, ⟨_, _, _, rfl, _⟩, _⟩ := h
    exact ha.length
  · obtain ⟨as, d, ha, ⟨ps, a, b, rfl, rfl⟩, q⟩ := h
    obtain ⟨v1, v2, v3, rfl, a1, a2, a3⟩ := ha.three
    refine ⟨_, (pss_one (ps_ret (pe_or (pe_cmpR (op_inTK K hr.units65) (pe_tupF (pa_cons (pv 1) (pa_cons (pv 2) pa_nil))) (pv 0) (by with_unfolding_all rfl)) (pe_one (pe_cmpR (op_inTK K hr.units65) (pe_tupF (pa_cons (pv 2) (pa_cons (pv 1) pa_nil))) (pv 0) (by with_unfolding_all rfl)))))), ?_⟩
    have w : Wd K E.C_Trade [] [] H H _ [.d (pairsD ps), .d (.int a), .d (.int b)] := Wd.start3 (N := N__law_may) a1 a2 a3
    exact s_retQ w q (ev_orV (by walk_at "ev") fun _ => by walk_at "ev")
end
end K1
set_option maxRecDepth 10000000
namespace K1
open PySem PySem.Spec PyProof.Rows L2 Pt
local macro_rules
  | `(tactic| walk_at "sz") => `(tactic| first
    | omega
    | decide
    | (simp; omega)
    | (simp [iL, row, pairsD]; omega))
  | `(tactic| walk_at "ea") => `(tactic| first
    | (with_reducible exact ea_nil)
    | ((with_reducible apply ea_consL); (focus (walk_at "ev")); (focus (walk_at "ea")))
    | ((with_reducible apply ea_consS); (focus (walk_at "ev")); (focus (walk_at "ea")))
    | ((with_reducible apply ea_cons); (focus (walk_at "ev")); (focus (walk_at "ea")))
    | ((with_reducible apply ea_consN); (focus (walk_at "en")); (focus (walk_at "ea"))))
  | `(tactic| walk_at "ed") => `(tactic| first
    | (with_reducible exact ed_nil)
    | ((with_reducible apply ed_cons); (focus (walk_at "ev")); (focus (walk_at "ed"))))
  | `(tactic| walk_at "en") => `(tactic| first
    | ((with_reducible apply en_lst); (focus (walk_at "ed")); (focus (simp)))
    | ((with_reducible apply en_listT); (focus (walk_at "ev")))
    | ((with_reducible apply en_addL); (focus (walk_at "ev")); (focus (walk_at "en")); (focus (walk_at "sz")))
    | ((with_reducible apply en_addN); (focus (walk_at "en")); (focus (walk_at "en")); (focus (walk_at "sz")))
    | ((with_reducible apply en_slL); (focus (walk_at "ev")); (focus (walk_at "eo")); (focus (walk_at "eo"))))
  | `(tactic| walk_at "eo") => `(tactic| first
    | (with_reducible exact eo_none)
    | ((with_reducible apply eo_some); (focus (walk_at "ev"))))
  | `(tactic| walk_at "et") => `(tactic| first
    | (with_reducible exact et_yes)
    | ((with_reducible apply et_test); (focus (walk_at "ev")))
    | ((with_reducible apply et_B); (focus (walk_at "ev")))
    | ((with_reducible apply et_truB); (focus (walk_at "ev")))
    | ((with_reducible apply et_truT); (focus (walk_at "ev")))
    | ((with_reducible apply et_not); (focus (walk_at "et")))
    | ((with_reducible apply et_and); (focus (walk_at "et")); (focus (intro _; walk_at "et")))
    | ((with_reducible apply et_or); (focus (walk_at "et")); (focus (intro _; walk_at "et"))))
  | `(tactic| walk_at "var") => `(tactic| first
    | ((with_reducible apply ev_varD); (focus (assumption)); (focus (rfl)))
    | ((with_reducible apply ev_varL); (focus (assumption)); (focus (rfl)))
    | ((with_reducible apply ev_varS); (focus (assumption)); (focus (rfl)))
    | ((with_reducible apply ev_varT); (focus (assumption)); (focus (rfl)))
    | ((with_reducible apply ev_varH); (focus (assumption)); (focus (rfl)))
    | ((with_reducible apply ev_varZ); (focus (assumption)); (focus (rfl))))
  | `(tactic| walk_at "ev") => `(tactic| first
    | walk_at "var"
    | (with_reducible exact ev_int)
    | (with_reducible exact ev_bl)
    | (with_reducible exact ev_str)
    | (with_reducible exact ev_non)
    | ((with_reducible apply ev_letters); (focus (walk_at "ev")))
    | ((with_reducible apply ev_pairs); (focus (walk_at "ev")))
    | ((with_reducible apply ev_addI); (focus (walk_at "ev")); (focus (walk_at "ev")))
    | ((with_reducible apply ev_addT); (focus (walk_at "ev")); (focus (walk_at "ev")); (focus (walk_at "sz")))
    | ((with_reducible apply ev_i0); (focus (walk_at "ev")); (focus (walk_at "ev")); (focus (first | exact fun _ => .int _ | exact fun _ => .bl _)))
    | ((with_reducible apply ev_iC); (focus (walk_at "ev")); (focus (walk_at "ev")); (focus (first | assumption | walk_at "cond")); (focus (exact fun _ => .int _)))
    | ((with_reducible apply ev_chain); (focus (walk_at "ev")); (focus (walk_at "ev")); (focus (walk_at "ev")))
    | ((with_reducible apply ev_eqI); (focus (walk_at "ev")); (focus (walk_at "ev")))
    | ((with_reducible apply ev_neI); (focus (walk_at "ev")); (focus (walk_at "ev")))
    | ((with_reducible apply ev_eqR); (focus (walk_at "ev")); (focus (walk_at "ev")))
    | ((with_reducible apply ev_neR); (focus (walk_at "ev")); (focus (walk_at "ev")))
    | ((with_reducible apply ev_isN); (focus (walk_at "ev")))
    | ((with_reducible apply ev_notN); (focus (walk_at "ev")))
    | ((with_reducible apply ev_in2); (focus (walk_at "ev")); (focus (walk_at "ev")); (focus (walk_at "ev")))
    | ((with_reducible apply ev_inP); (focus (walk_at "ev")); (focus (walk_at "ev")))
    | ((with_reducible apply ev_tup); (focus (walk_at "ed")); (focus (simp)))
    | ((with_reducible apply ev_lenT); (focus (walk_at "ev")))
    | ((with_reducible apply ev_lenL); (focus (walk_at "ev")))
    | ((with_reducible apply ev_lenS); (focus (walk_at "ev")))
    | ((with_reducible apply ev_lenN); (focus (walk_at "en")))
    | ((with_reducible apply ev_max2); (focus (walk_at "ev")); (focus (walk_at "ev")))
    | ((with_reducible apply ev_min2); (focus (walk_at "ev")); (focus (walk_at "ev")))
    | ((with_reducible apply ev_int1); (focus (walk_at "ev")))
    | ((with_reducible apply ev_tupleL); (focus (walk_at "ev")))
    | ((with_reducible apply ev_tupleN); (focus (walk_at "en")))
    | ((with_reducible apply ev_countT); (focus (walk_at "ev")); (focus (walk_at "ev")))
    | ((with_reducible apply ev_andV); (focus (walk_at "ev")); (focus (intro _; walk_at "ev")))
    | ((with_reducible apply ev_orV); (focus (walk_at "ev")); (focus (intro _; walk_at "ev")))
    | ((with_reducible apply ev_notV); (focus (walk_at "ev"))))
section
variable {P : Program} {w : World} {K : PySem.W.Frag} {mg : Str → Option Value} {base : Heap}
def okAt (ps : List (Int × Int)) (l : List Int) (k : Nat) : Prop := ∃ a b, l[k]? = some a ∧ l[k + 1]? = some b ∧ may ps a b = true
def swapAt (l : List Int) (k : Nat) : List Int := l.take k ++ [l.getD (k + 1) 0, l.getD k 0] ++ l.drop (k + 2)
inductive Walks (ps : List (Int × Int)) : List Int → List Int → List Int → Prop
  | nil {l : List Int} : Walks ps l [] l
  | cons {l : List Int} {k : Nat} {ks m : List Int} : okAt ps l k → Walks ps (swapAt l k) ks m → Walks ps l ((k : Int) :: ks) m
theorem okAt_lt {ps : List (Int × Int)} {l : List Int} {k : Nat} (h : okAt ps l k) : k + 1 < l.length := by
  obtain ⟨a, b, _, h, _⟩ := h
  exact (List.getElem?_eq_some_iff.mp h).1
end
end K1
set_option maxRecDepth 10000000
namespace K1
open PySem PySem.Spec PyProof.Rows L2 Pt
local macro_rules
  | `(tactic| walk_at "sz") => `(tactic| first
    | omega
    | decide
    | (simp; omega)
    | (simp [iL, row, pairsD]; omega))
  | `(tactic| walk_at "ea") => `(tactic| first
    | (with_reducible exact ea_nil)
    | ((with_reducible apply ea_consL); (focus (walk_at "ev")); (focus (walk_at "ea")))
    | ((with_reducible apply ea_consS); (focus (walk_at "ev")); (focus (walk_at "ea")))
    | ((with_reducible apply ea_cons); (focus (walk_at "ev")); (focus (walk_at "ea")))
    | ((with_reducible apply ea_consN); (focus (walk_at "en")); (focus (walk_at "ea"))))
  | `(tactic| walk_at "ed") => `(tactic| first
    | (with_reducible exact ed_nil)
    | ((with_reducible apply ed_cons); (focus (walk_at "ev")); (focus (walk_at "ed"))))
  | `(tactic| walk_at "en") => `(tactic| first
    | ((with_reducible apply en_lst); (focus (walk_at "ed")); (focus (simp)))
    | ((with_reducible apply en_listT); (focus (walk_at "ev")))
    | ((with_reducible apply en_addL); (focus (walk_at "ev")); (focus (walk_at "en")); (focus (walk_at "sz")))
    | ((with_reducible apply en_addN); (focus (walk_at "en")); (focus (walk_at "en")); (focus (walk_at "sz")))
    | ((with_reducible apply en_slL); (focus (walk_at "ev")); (focus (walk_at "eo")); (focus (walk_at "eo"))))
  | `(tactic| walk_at "eo") => `(tactic| first
    | (with_reducible exact eo_none)
    | ((with_reducible apply eo_some); (focus (walk_at "ev"))))
  | `(tactic| walk_at "et") => `(tactic| first
    | (with_reducible exact et_yes)
    | ((with_reducible apply et_test); (focus (walk_at "ev")))
    | ((with_reducible apply et_B); (focus (walk_at "ev")))
    | ((with_reducible apply et_truB); (focus (walk_at "ev")))
    | ((with_reducible apply et_truT); (focus (walk_at "ev")))
    | ((with_reducible apply et_not); (focus (walk_at "et")))
    | ((with_reducible apply et_and); (focus (walk_at "et")); (focus (intro _; walk_at "et")))
    | ((with_reducible apply et_or); (focus (walk_at "et")); (focus (intro _; walk_at "et"))))
  | `(tactic| walk_at "var") => `(tactic| first
    | ((with_reducible apply ev_varD); (focus (assumption)); (focus (rfl)))
    | ((with_reducible apply ev_varL); (focus (assumption)); (focus (rfl)))
    | ((with_reducible apply ev_varS); (focus (assumption)); (focus (rfl)))
    | ((with_reducible apply ev_varT); (focus (assumption)); (focus (rfl)))
    | ((with_reducible apply ev_varH); (focus (assumption)); (focus (rfl)))
    | ((with_reducible apply ev_varZ); (focus (assumption)); (focus (rfl))))
  | `(tactic| walk_at "ev") => `(tactic| first
    | walk_at "var"
    | (with_reducible exact ev_int)
    | (with_reducible exact ev_bl)
    | (with_reducible exact ev_str)
    | (with_reducible exact ev_non)
    | ((with_reducible apply ev_letters); (focus (walk_at "ev")))
    | ((with_reducible apply ev_pairs); (focus (walk_at "ev")))
    | ((with_reducible apply ev_addI); (focus (walk_at "ev")); (focus (walk_at "ev")))
    | ((with_reducible apply ev_addT); (focus (walk_at "ev")); (focus (walk_at "ev")); (focus (walk_at "sz")))
    | ((with_reducible apply ev_i0); (focus (walk_at "ev")); (focus (walk_at "ev")); (focus (first | exact fun _ => .int _ | exact fun _ => .bl _)))
    | ((with_reducible apply ev_iC); (focus (walk_at "ev")); (focus (walk_at "ev")); (focus (first | assumption | walk_at "cond")); (focus (exact fun _ => .int _)))
    | ((with_reducible apply ev_chain); (focus (walk_at "ev")); (focus (walk_at "ev")); (focus (walk_at "ev")))
    | ((with_reducible apply ev_eqI); (focus (walk_at "ev")); (focus (walk_at "ev")))
    | ((with_reducible apply ev_neI); (focus (walk_at "ev")); (focus (walk_at "ev")))
    | ((with_reducible apply ev_eqR); (focus (walk_at "ev")); (focus (walk_at "ev")))
    | ((with_reducible apply ev_neR); (focus (walk_at "ev")); (focus (walk_at "ev")))
    | ((with_reducible apply ev_isN); (focus (walk_at "ev")))
    | ((with_reducible apply ev_notN); (focus (walk_at "ev")))
    | ((with_reducible apply ev_in2); (focus (walk_at "ev")); (focus (walk_at "ev")); (focus (walk_at "ev")))
    | ((with_reducible apply ev_inP); (focus (walk_at "ev")); (focus (walk_at "ev")))
    | ((with_reducible apply ev_tup); (focus (walk_at "ed")); (focus (simp)))
    | ((with_reducible apply ev_lenT); (focus (walk_at "ev")))
    | ((with_reducible apply ev_lenL); (focus (walk_at "ev")))
    | ((with_reducible apply ev_lenS); (focus (walk_at "ev")))
    | ((with_reducible apply ev_lenN); (focus (walk_at "en")))
    | ((with_reducible apply ev_max2); (focus (walk_at "ev")); (focus (walk_at "ev")))
    | ((with_reducible apply ev_min2); (focus (walk_at "ev")); (focus (walk_at "ev")))
    | ((with_reducible apply ev_int1); (focus (walk_at "ev")))
    | ((with_reducible apply ev_tupleL); (focus (walk_at "ev")))
    | ((with_reducible apply ev_tupleN); (focus (walk_at "en")))
    | ((with_reducible apply ev_countT); (focus (walk_at "ev")); (focus (walk_at "ev")))
    | ((with_reducible apply ev_andV); (focus (walk_at "ev")); (focus (intro _; walk_at "ev")))
    | ((with_reducible apply ev_orV); (focus (walk_at "ev")); (focus (intro _; walk_at "ev")))
    | ((with_reducible apply ev_notV); (focus (walk_at "ev"))))
section
variable {P : Program} {w : World} {K : PySem.W.Frag} {mg : Str → Option Value} {base : Heap}
theorem cmulR {i j : Int} (h : -(2 ^ 64) < j ∧ j < 2 ^ 64) : CMul i j := .inr h
theorem ok__law_mix (E : Nv K mg) : FnOk P w K mg base CX0 4 E.a__law_mix E.d__law_mix ["_law_script", "_law_seed"] (spM K E.C_Trade) := by
  refine E.F__law_mix.ok sc__law_mix (fun vs H Q _ h => ?_) (fun cdv A outer s H vs Q _ hr h => ?_)
  · obtain ⟨z, cells, v1, k, rfl, _⟩ := h
    rfl
  · obtain ⟨z, cells, v1, k, rfl, hz, hl, q⟩ := h
    refine ⟨_, (pss_cons (ps_set (i := 2) sc__law_mix.nd rfl (.inl rfl) (pv 1))
      (pss_cons (ps_for PassesOwn.never rfl (pi_listK K (pv 0)) (pg_name (i := 3) sc__law_mix.nd rfl (.inl rfl))
      (pss_one (ps_set (i := 2) sc__law_mix.nd rfl (.inl rfl) (pe_op op_mod (pe_callTy call_int1' (by rfl) E.n_int (by decide +kernel) (pa_cons (pe_op (op_addK K) (pe_op (op_addK K) (pe_op op_mul (pv 2) pe_int) (pe_op op_mod (pe_callTy call_int1' (by rfl) E.n_int (by decide +kernel) (pa_cons (pv 3) pa_nil)) pe_int)) pe_int) pa_nil)) pe_int))))
      (pss_one (ps_ret (pe_lst (pa_cons (pv 2) (pa_cons (pe_callTy (call_listK K) (by rfl) E.n_list (by decide +kernel) (pa_cons (pv 0) pa_nil)) (pa_cons pe_int pa_nil)))))))), ?_⟩
    have w : Wd K E.C_Trade [] [] H H _ [.z z (iL cells), .d (.int k), .u, .u] := Wd.start2 (N := N__law_mix) (c1 := .z z (iL cells)) (c2 := .d (.int k)) hz (Td.int k)
    refine q_asgD w (ev_var w rfl) fun σ1 H1 w1 => ?_
    refine q_forZ w1 (ev_var (i := 0) w1 rfl) (fun t σ H' => ∃ (st : Int) (c3 : Ct), Wd K E.C_Trade [] [] H H' σ [.z z (iL cells), .d (.int k), .d (.int st), c3]) (fun H2 w2 => ⟨_, _, w2⟩) (fun t σ H' ⟨st, c3, w2⟩ => ?_) ?_ ?_
    · obtain ⟨v, _, _, xs, s, t⟩ := w2.get (i := 0) rfl
      exact ⟨xs, s.sq, t⟩
    · rintro t d v σ H' hd tv ⟨st, c3, w2⟩
      obtain ⟨x, rfl⟩ : ∃ x : Int, d = .int x := by
        rw [iL_get] at hd
        cases e : cells[t]? with
        | none => rw [e] at hd; cases hd
        | some x => rw [e] at hd; exact ⟨x, (Option.some.inj hd).symm⟩
      have w3 : Wd K E.C_Trade [] [] H H' _ [.z z (iL cells), .d (.int k), .d (.int st), .d (.int x)] := w2.set 3 tv
      refine s_asgD w3 (ev_iC (ev_int1 (ev_addI (ev_addI (ev_iC (ev_var w3 rfl) ev_int (cmulR ⟨by decide, by decide⟩) (fun _ => .int _)) (ev_iC (ev_int1 (ev_var w3 rfl)) ev_int (by decide) (fun _ => .int _))) ev_int)) ev_int (by decide) (fun _ => .int _)) fun σ4 H4 w4 => ⟨_, _, w4⟩
    · rintro σ H' ⟨st, c3, w2⟩
      unfold tRet tLst tCons
      refine (ev_var w2 rfl : EvC K E.C_Trade (tVar 2) σ H' (.d (.int st))) H' (Same.refl H') _ fun v H2 e2 a2 => ?_
      rw [Td.int_of a2]
      refine (en_listZ (ev_var (w2.mono e2) rfl) : EvN K E.C_Trade _ σ H2 (iL cells)) H2 (Same.refl H2) _ fun c H3 hc e3 a3 => ?_
      obtain ⟨_, xs, hx, tx⟩ := a3
      rw [tx.iL_of] at hx
      refine ⟨by show 3 ≤ sizeLine; decide, fun p hp => ?_⟩
      have hpc : p ≠ c := ne_of_none' hp hx
      have e4 : Same H3 (upd H3 p (.lst [.int st, .ref c, .int 0])) := same_new hp
      have f0 := ((w2.mono e2).mono e3).fr0
      refine q p c _ ?_ ?_ (f0.trans e4) (show Src _ p c st 0 cells from ⟨upd_same, e4 _ _ hx, hpc, hl⟩).ct
      · exact f0.free hp
      · exact (w2.mono e2).fresh0 hc
theorem ok__law_next (E : Nv K mg) : FnOk P w K mg base CX0 4 E.a__law_next E.d__law_next ["_law_h", "_law_bound"] (spH K E.C_Trade) := by
  refine E.F__law_next.ok sc__law_next (fun vs H Q _ h => ?_) (fun cdv A outer s H vs Q _ hr h => ?_)
  · obtain ⟨p, c, b, rfl, _⟩ := h
    rfl
  · obtain ⟨p, c, b, rfl, ⟨_, hpc, st, k, cells, hp, hc, hl⟩, hb1, hb2, q⟩ := h
    refine ⟨_, (pss_cons (ps_set (i := 2) sc__law_next.nd rfl (.inl rfl) (pe_ix (ix_K K) (pe_op (op_addK K) (pe_ix (ix_K K) (pv 0) pe_int (fun _ _ => rfl)) (pe_lst (pa_cons pe_int pa_nil))) (pe_op op_mod (pe_callTy call_int1' (by rfl) E.n_int (by decide +kernel) (pa_cons (pe_ix (ix_K K) (pv 0) pe_int (fun _ _ => rfl)) pa_nil)) (pe_callB (call_max2' rfl) (by rfl) E.n_max (by decide +kernel) (pa_cons pe_int (pa_cons (pe_callB (call_lenK K) (by rfl) E.n_len (by decide +kernel) (pa_cons (pe_ix (ix_K K) (pv 0) pe_int (fun _ _ => rfl)) pa_nil)) pa_nil)))) (fun _ _ => rfl)))
      (pss_cons (ps_if (pt_cmpR (op_ge) (pv 2) (pe_op op_pow pe_int pe_int) (nomark _)) (pss_cons (ps_set (i := 3) sc__law_next.nd rfl (.inl rfl) (pe_ix (ix_K K) (pv 0) pe_int (fun _ _ => rfl)))
      (pss_cons (ps_asg (pe_op op_fdiv (pv 2) (pv 1)) (pg_sub (pv 3) (pe_op op_mod (pe_callTy call_int1' (by rfl) E.n_int (by decide +kernel) (pa_cons (pe_ix (ix_K K) (pv 0) pe_int (fun _ _ => rfl)) pa_nil)) (pe_callB (call_lenK K) (by rfl) E.n_len (by decide +kernel) (pa_cons (pv 3) pa_nil))) set_list))
      (pss_one (ps_ret (pe_op op_mod (pe_callTy call_int1' (by rfl) E.n_int (by decide +kernel) (pa_cons (pv 2) pa_nil)) (pv 1)))))) pss_nil)
      (pss_cons (ps_asg (pe_op op_mod (pe_callTy call_int1' (by rfl) E.n_int (by decide +kernel) (pa_cons (pe_op (op_addK K) (pe_op (op_addK K) (pe_op op_mul (pe_ix (ix_K K) (pv 0) pe_int (fun _ _ => rfl)) pe_int) (pe_op op_mul (pv 2) pe_int)) pe_int) pa_nil)) pe_int) (pg_sub (pv 0) pe_int set_list))
      (pss_cons (ps_asg (pe_op (op_addK K) (pe_ix (ix_K K) (pv 0) pe_int (fun _ _ => rfl)) pe_int) (pg_sub (pv 0) pe_int set_list))
      (pss_one (ps_ret (pe_op op_mod (pe_callTy call_int1' (by rfl) E.n_int (by decide +kernel) (pa_cons (pe_op op_fdiv (pe_ix (ix_K K) (pv 0) pe_int (fun _ _ => rfl)) pe_int) pa_nil)) (pv 1)))))))), ?_⟩
    have S0 : Src H p c st k cells := ⟨hp, hc, hpc, hl⟩
    have hM : (0 : Int) < max 1 (cells.length : Int) := by omega
    have i0 := Int.emod_nonneg k (show max 1 (cells.length : Int) ≠ 0 by omega)
    have i1 := Int.emod_lt_of_pos k hM
    have hj : (k % max 1 (cells.length : Int)).toNat < (cells ++ [0]).length := by
      rw [List.length_append]
      simp only [List.length_cons, List.length_nil]
      omega
    obtain ⟨cell, hcell⟩ : ∃ cell, (cells ++ [0])[(k % max 1 (cells.length : Int)).toNat]? = some cell := ⟨_, List.getElem?_eq_getElem hj⟩
    have g0 : atI (iL cells ++ [.int 0]) (k % max 1 (cells.length : Int)) = some (.int cell) := by
      have e : k % max 1 (cells.length : Int) = ((k % max 1 (cells.length : Int)).toNat : Int) := by omega
      rw [e]
      refine atI_nat ?_
      have z : iL cells ++ [.int 0] = iL (cells ++ [0]) := by rw [iL_app]; rfl
      rw [z, iL_get, hcell]
      rfl
    refine (ev_ixN (K := K) (C := E.C_Trade) (d := .int cell) (en_addL (src_c S0 rfl) (en_lst (ed_cons ev_int ed_nil)) (by rw [iL_len]; simp; omega)) (ev_iC (ev_int1 (src_k S0 rfl)) (ev_max2 ev_int (ev_d (ev_lenL (src_c S0 rfl)) (by rw [iL_len]))) hM (fun _ => .int _)) g0) H (Same.refl H) _ fun v H1 e1 a1 => ?_
    rw [Td.int_of a1]
    have S1 := S0.mono e1
    refine (et_test (ev_i0 (K := K) (C := E.C_Trade) (ev_at (k := cell) rfl) (ev_iC (d := .int (10 ^ 18)) ev_int ev_int ⟨by decide, by decide, by decide⟩ (fun _ => .int _)) (fun _ => .bl _))) H1 (Same.refl H1) _ fun H2 e2 => ?_
    have S2 := S1.mono e2
    by_cases hbig : (10 ^ 18 : Int) ≤ cell
    · rw [if_pos (decide_eq_true hbig)]
      have hj2 : (k % max 1 (cells.length : Int)).toNat < cells.length := by
        rcases Nat.lt_or_ge (k % max 1 (cells.length : Int)).toNat cells.length with z | z
        · exact z
        · have e : (k % max 1 (cells.length : Int)).toNat = cells.length := by
            rw [List.length_append] at hj
            simp only [List.length_cons, List.length_nil] at hj
            omega
          rw [e, List.getElem?_append_right (Nat.le_refl _), Nat.sub_self] at hcell
          have : cell = 0 := by simpa using hcell.symm
          rw [this] at hbig
          exact absurd hbig (by decide)
      have hlen : (0 : Int) < (cells.length : Int) := by omega
      refine (src_c (K := K) (C := E.C_Trade) S2 rfl) H2 (Same.refl H2) _ fun v H3 e3 a3 => ?_
      obtain ⟨rfl, _⟩ := a3
      have S3 := S2.mono e3
      refine (ev_iC (K := K) (C := E.C_Trade) (d := .int (cell / b)) (ev_at (k := cell) rfl) (ev_at (k := b) rfl) ⟨by omega, by omega⟩ (fun _ => .int _)) H3 (Same.refl H3) _ fun v H4 e4 a4 => ?_
      rw [Td.int_of a4]
      have S4 := S3.mono e4
      refine ⟨.ref c, rfl, ?_⟩
      refine (ev_iC (K := K) (C := E.C_Trade) (d := .int (k % (cells.length : Int))) (ev_int1 (src_k S4 rfl)) (ev_d (ev_lenL (ev_lstAt rfl S4.2.1)) (by rw [iL_len])) hlen (fun _ => .int _)) H4 (Same.refl H4) _ fun v H5 e5 a5 => ?_
      rw [Td.int_of a5]
      have S5 := S4.mono e5
      have j0 := Int.emod_nonneg k (show (cells.length : Int) ≠ 0 by omega)
      have j1 := Int.emod_lt_of_pos k hlen
      refine ⟨c, _, _, (k % (cells.length : Int)).toNat, rfl, rfl, S5.2.1, ?_, ?_⟩
      · unfold ixN
        rw [List.length_map, if_pos j0, if_pos (by omega)]
      · have S6 : Src (upd H5 c (.lst ((cells.map V.int).set (k % (cells.length : Int)).toNat (.int (cell / b))))) p c st k (cells.set (k % (cells.length : Int)).toNat (cell / b)) := by
          refine ⟨by rw [upd_ne hpc]; exact S5.1, ?_, hpc, by rw [List.length_set]; exact hl⟩
          rw [upd_same, List.map_set]
        refine (ev_iC (K := K) (C := E.C_Trade) (d := .int (cell % b)) (ev_int1 (ev_at (k := cell) rfl)) (ev_at (k := b) rfl) (by omega) (fun _ => .int _)) _ (Same.refl _) _ fun v H7 e7 a7 => ?_
        rw [Td.int_of a7]
        refine q _ _ (Int.emod_nonneg _ (by omega)) (Int.emod_lt_of_pos _ (by omega)) ?_ (S6.mono e7).ct
        exact (((Fr.of (((e1.trans e2).trans e3).trans (e4.trans e5)) _).trans (Fr.updIn (by simp))).trans (Fr.of e7 _))
    · rw [if_neg (by simpa using hbig)]
      refine (ev_iC (K := K) (C := E.C_Trade) (ev_int1 (ev_addI (ev_addI (ev_iC (src_s S2 rfl) ev_int (cmulR ⟨by decide, by decide⟩) (fun _ => .int _)) (ev_iC (ev_at (k := cell) rfl) ev_int (cmulR ⟨by decide, by decide⟩) (fun _ => .int _))) ev_int)) ev_int (by decide) (fun _ => .int _)) H2 (Same.refl H2) _ fun v H3 e3 a3 => ?_
      rw [Td.int_of a3]
      have S3 := S2.mono e3
      generalize ((st * 48271 + cell * 69621 + 11) % 2147483647) = st'
      refine ⟨.ref p, rfl, p, _, 0, 0, rfl, rfl, S3.1, rfl, ?_⟩
      have S4 : Src (upd H3 p (.lst ([V.int st, .ref c, .int k].set 0 (.int st')))) p c st' k cells := ⟨upd_same, by rw [upd_ne (Ne.symm hpc)]; exact S3.2.1, hpc, hl⟩
      refine (ev_addI (K := K) (C := E.C_Trade) (src_k S4 rfl) (ev_int (k := 1))) _ (Same.refl _) _ fun v H5 e5 a5 => ?_
      rw [Td.int_of a5]
      have S5 := S4.mono e5
      refine ⟨.ref p, rfl, p, _, 2, 2, rfl, rfl, S5.1, rfl, ?_⟩
      have S6 : Src (upd H5 p (.lst ([V.int st', .ref c, .int k].set 2 (.int (k + 1))))) p c st' (k + 1) cells := ⟨upd_same, by rw [upd_ne (Ne.symm hpc)]; exact S5.2.1, hpc, hl⟩
      refine (ev_iC (K := K) (C := E.C_Trade) (ev_int1 (ev_iC (src_s S6 rfl) (ev_int (k := 7)) ⟨by decide, by decide⟩ (fun _ => .int _))) (ev_at (k := b) rfl) (by omega) (fun _ => .int _)) _ (Same.refl _) _ fun v H7 e7 a7 => ?_
      rw [Td.int_of a7]
      refine q _ _ (Int.emod_nonneg _ (by omega)) (Int.emod_lt_of_pos _ (by omega)) ?_ (S6.mono e7).ct
      exact (((((Fr.of ((e1.trans e2).trans e3) _).trans (Fr.updIn (by simp))).trans (Fr.of e5 _)).trans (Fr.updIn (by simp))).trans (Fr.of e7 _))
end
end K1
set_option maxRecDepth 10000000
namespace K1
open PySem PySem.Spec PyProof.Rows L2 Pt
local macro_rules
  | `(tactic| walk_at "sz") => `(tactic| first
    | omega
    | decide
    | (simp; omega)
    | (simp [iL, row, pairsD]; omega))
  | `(tactic| walk_at "ea") => `(tactic| first
    | (with_reducible exact ea_nil)
    | ((with_reducible apply ea_consL); (focus (walk_at "ev")); (focus (walk_at "ea")))
    | ((with_reducible apply ea_consS); (focus (walk_at "ev")); (focus (walk_at "ea")))
    | ((with_reducible apply ea_cons); (focus (walk_at "ev")); (focus (walk_at "ea")))
    | ((with_reducible apply ea_consN); (focus (walk_at "en")); (focus (walk_at "ea"))))
  | `(tactic| walk_at "ed") => `(tactic| first
    | (with_reducible exact ed_nil)
    | ((with_reducible apply ed_cons); (focus (walk_at "ev")); (focus (walk_at "ed"))))
  | `(tactic| walk_at "en") => `(tactic| first
    | ((with_reducible apply en_lst); (focus (walk_at "ed")); (focus (simp)))
    | ((with_reducible apply en_listT); (focus (walk_at "ev")))
    | ((with_reducible apply en_addL); (focus (walk_at "ev")); (focus (walk_at "en")); (focus (walk_at "sz")))
    | ((with_reducible apply en_addN); (focus (walk_at "en")); (focus (walk_at "en")); (focus (walk_at "sz")))
    | ((with_reducible apply en_slL); (focus (walk_at "ev")); (focus (walk_at "eo")); (focus (walk_at "eo"))))
  | `(tactic| walk_at "eo") => `(tactic| first
    | (with_reducible exact eo_none)
    | ((with_reducible apply eo_some); (focus (walk_at "ev"))))
  | `(tactic| walk_at "et") => `(tactic| first
    | (with_reducible exact et_yes)
    | ((with_reducible apply et_test); (focus (walk_at "ev")))
    | ((with_reducible apply et_B); (focus (walk_at "ev")))
    | ((with_reducible apply et_truB); (focus (walk_at "ev")))
    | ((with_reducible apply et_truT); (focus (walk_at "ev")))
    | ((with_reducible apply et_not); (focus (walk_at "et")))
    | ((with_reducible apply et_and); (focus (walk_at "et")); (focus (intro _; walk_at "et")))
    | ((with_reducible apply et_or); (focus (walk_at "et")); (focus (intro _; walk_at "et"))))
  | `(tactic| walk_at "var") => `(tactic| first
    | ((with_reducible apply ev_varD); (focus (assumption)); (focus (rfl)))
    | ((with_reducible apply ev_varL); (focus (assumption)); (focus (rfl)))
    | ((with_reducible apply ev_varS); (focus (assumption)); (focus (rfl)))
    | ((with_reducible apply ev_varT); (focus (assumption)); (focus (rfl)))
    | ((with_reducible apply ev_varH); (focus (assumption)); (focus (rfl)))
    | ((with_reducible apply ev_varZ); (focus (assumption)); (focus (rfl))))
  | `(tactic| walk_at "ev") => `(tactic| first
    | walk_at "var"
    | (with_reducible exact ev_int)
    | (with_reducible exact ev_bl)
    | (with_reducible exact ev_str)
    | (with_reducible exact ev_non)
    | ((with_reducible apply ev_letters); (focus (walk_at "ev")))
    | ((with_reducible apply ev_pairs); (focus (walk_at "ev")))
    | ((with_reducible apply ev_addI); (focus (walk_at "ev")); (focus (walk_at "ev")))
    | ((with_reducible apply ev_addT); (focus (walk_at "ev")); (focus (walk_at "ev")); (focus (walk_at "sz")))
    | ((with_reducible apply ev_i0); (focus (walk_at "ev")); (focus (walk_at "ev")); (focus (first | exact fun _ => .int _ | exact fun _ => .bl _)))
    | ((with_reducible apply ev_iC); (focus (walk_at "ev")); (focus (walk_at "ev")); (focus (first | assumption | walk_at "cond")); (focus (exact fun _ => .int _)))
    | ((with_reducible apply ev_chain); (focus (walk_at "ev")); (focus (walk_at "ev")); (focus (walk_at "ev")))
    | ((with_reducible apply ev_eqI); (focus (walk_at "ev")); (focus (walk_at "ev")))
    | ((with_reducible apply ev_neI); (focus (walk_at "ev")); (focus (walk_at "ev")))
    | ((with_reducible apply ev_eqR); (focus (walk_at "ev")); (focus (walk_at "ev")))
    | ((with_reducible apply ev_neR); (focus (walk_at "ev")); (focus (walk_at "ev")))
    | ((with_reducible apply ev_isN); (focus (walk_at "ev")))
    | ((with_reducible apply ev_notN); (focus (walk_at "ev")))
    | ((with_reducible apply ev_in2); (focus (walk_at "ev")); (focus (walk_at "ev")); (focus (walk_at "ev")))
    | ((with_reducible apply ev_inP); (focus (walk_at "ev")); (focus (walk_at "ev")))
    | ((with_reducible apply ev_tup); (focus (walk_at "ed")); (focus (simp)))
    | ((with_reducible apply ev_lenT); (focus (walk_at "ev")))
    | ((with_reducible apply ev_lenL); (focus (walk_at "ev")))
    | ((with_reducible apply ev_lenS); (focus (walk_at "ev")))
    | ((with_reducible apply ev_lenN); (focus (walk_at "en")))
    | ((with_reducible apply ev_max2); (focus (walk_at "ev")); (focus (walk_at "ev")))
    | ((with_reducible apply ev_min2); (focus (walk_at "ev")); (focus (walk_at "ev")))
    | ((with_reducible apply ev_int1); (focus (walk_at "ev")))
    | ((with_reducible apply ev_tupleL); (focus (walk_at "ev")))
    | ((with_reducible apply ev_tupleN); (focus (walk_at "en")))
    | ((with_reducible apply ev_countT); (focus (walk_at "ev")); (focus (walk_at "ev")))
    | ((with_reducible apply ev_andV); (focus (walk_at "ev")); (focus (intro _; walk_at "ev")))
    | ((with_reducible apply ev_orV); (focus (walk_at "ev")); (focus (intro _; walk_at "ev")))
    | ((with_reducible apply ev_notV); (focus (walk_at "ev"))))
section
variable {P : Program} {w : World} {K : PySem.W.Frag} {mg : Str → Option Value} {base : Heap}
abbrev A_law_pairs (as : List Ag) : Prop := ∃ n : Int, as = [.c (.d (.int n))] ∧ 1 ≤ n ∧ n ≤ 6
abbrev R_law_pairs (as : List Ag) (d : PyData) : Prop := ∃ (n : Int) (ps : List (Int × Int)), as = [.c (.d (.int n))] ∧ PairsOk n ps ∧ d = pairsD ps
def Upto (n a b : Int) (ps : List (Int × Int)) : Prop := (∀ p ∈ ps, 0 ≤ p.1 ∧ p.1 < p.2 ∧ p.2 < n) ∧ ps.Pairwise ltP ∧ ∀ p ∈ ps, ltP p (a, b)
theorem Upto.mono {n a b a' b' : Int} {ps : List (Int × Int)} (h : Upto n a b ps) (l : ltP (a, b) (a', b') ∨ (a, b) = (a', b')) : Upto n a' b' ps := ⟨h.1, h.2.1, fun p m => by
  rcases l with l | l
  · have := h.2.2 p m
    unfold ltP at this l ⊢
    simp only at this l ⊢
    omega
  · rw [← l]; exact h.2.2 p m⟩
theorem Upto.snoc {n a b : Int} {ps : List (Int × Int)} (h : Upto n a b ps) (h0 : 0 ≤ a) (h1 : a < b) (h2 : b < n) : Upto n a (b + 1) (ps ++ [(a, b)]) := by
  refine ⟨fun p m => ?_, List.pairwise_append.mpr ⟨h.2.1, List.pairwise_singleton _ _, fun p m q m' => ?_⟩, fun p m => ?_⟩
  · rcases List.mem_append.mp m with m | m
    · exact h.1 p m
    · rw [List.mem_singleton.mp m]; exact ⟨h0, h1, h2⟩
  · rw [List.mem_singleton.mp m']; exact h.2.2 p m
  · rcases List.mem_append.mp m with m | m
    · exact (h.mono (a' := a) (b' := b + 1) (.inl (.inr ⟨rfl, by show b < b + 1; omega⟩))).2.2 p m
    · rw [List.mem_singleton.mp m]; exact .inr ⟨rfl, by show b < b + 1; omega⟩
theorem ok__law_pairs (E : Nv K mg) : FnOk P w K mg base CX0 8 E.a__law_pairs E.d__law_pairs ["_law_h", "_law_letters"] (spDr K E.C_Trade A_law_pairs R_law_pairs) := by
  refine E.F__law_pairs.ok sc__law_pairs (fun vs H Q _ h => ?_) (fun cdv A outer s H vs Q _ hr h => ?_)
  · obtain ⟨p, c, ws, as, rfl, _, ha, ⟨_, rfl, _⟩, _⟩ := h
    exact congrArg (· + 1) ha.length
  · obtain ⟨p, c, ws, as, rfl, hs, ha, ⟨n, rfl, n1, n6⟩, q⟩ := h
    obtain ⟨v1, rfl, a1⟩ := ha.one
    refine ⟨_, (pss_cons (ps_par (i := 2) (j := 3) (by rfl) sc__law_pairs.nd rfl rfl (by decide) rfl rfl (pa_cons (pe_call (ok__law_next E) (hr.mono (by first | decide | omega)) (by rfl) E.m__law_next E.F__law_next.kp E.b__law_next .nil pass0 (pa_cons (pv 0) (pa_cons pe_int pa_nil))) (pa_cons (pe_lst pa_nil) pa_nil)) (by rfl))
      (pss_cons (ps_for PassesOwn.never rfl (pi_range1 (by rfl) E.n_range (pa_cons (pv 1) pa_nil)) (pg_name (i := 4) sc__law_pairs.nd rfl (.inl rfl))
      (pss_one (ps_for PassesOwn.never rfl (pi_range2 (by rfl) E.n_range (pa_cons (pe_op (op_addK K) (pv 4) pe_int) (pa_cons (pv 1) pa_nil))) (pg_name (i := 5) sc__law_pairs.nd rfl (.inl rfl))
      (pss_one (ps_if (PW.pt (pw_or (pt_cmpR (op_eqK K hr.units) (pv 2) pe_int (nomark _)) (pw_or1 (PW.pt (pw_and (pt_cmpR (op_lt) (pv 2) pe_int (nomark _)) (pw_and1 (pt_cmpR (op_eqK K hr.units) (pe_call (ok__law_next E) (hr.mono (by first | decide | omega)) (by rfl) E.m__law_next E.F__law_next.kp E.b__law_next .nil pass0 (pa_cons (pv 0) (pa_cons pe_int pa_nil))) pe_int (nomark _)))))))) (pss_one (ps_expr (pe_bm PySem.F.plainAttrs_list PySem.F.slot_list_append PySem.F.type_list_append mt_append (pv 3) (pa_cons (pe_tupF (pa_cons (pv 4) (pa_cons (pv 5) pa_nil))) pa_nil)))) pss_nil)))))
      (pss_one (ps_ret (pe_callTy (call_tupleK K) (by rfl) E.n_tuple (by decide +kernel) (pa_cons (pv 3) pa_nil)))))), ?_⟩
    have w : Wd K E.C_Trade [p, c] [] H H _ [.h p c, .d (.int n), .u, .u, .u, .u] := Wd.startH (N := N__law_pairs) (vs := [v1]) (cs := [.d (.int n)]) ⟨hs, a1, True.intro⟩ rfl (Nat.le_of_ble_eq_true rfl)
    refine q_parDr w rfl (by decide) (by decide) fun r l σ2 H2 r0 r1 w2' => ?_
    have w2 : Wd K E.C_Trade [p, c] [] H H2 σ2 [.h p c, .d (.int n), .d (.int r), .l l [], .u, .u] := w2'
    refine q_forR1 w2 (n := n) (by walk_at "ea") (by omega) (fun k σ H' => ∃ c4 c5 ps, Wd K E.C_Trade [p, c] [] H H' σ [.h p c, .d (.int n), .d (.int r), .l l (ps.map Pt.pairD), c4, c5] ∧ Upto n k 0 ps ∧ ps.length ≤ 6 * k) (fun H1 w1 => ⟨_, _, [], w1, ⟨fun p m => by simp at m, .nil, fun p m => by simp at m⟩, by simp⟩) ?_ ?_
    · rintro k σ H' hk ⟨c4, c5, ps, w3, hu, hl⟩
      have w4 : Wd K E.C_Trade [p, c] [] H H' _ [.h p c, .d (.int n), .d (.int r), .l l (ps.map Pt.pairD), .d (.int k), c5] := w3.set 4 (v := .int k) (.int _)
      refine s_forR2 w4 (lo := (k : Int) + 1) (n := n) (by walk_at "ea") (by omega) (fun i σ H' => ∃ c5 ps, Wd K E.C_Trade [p, c] [] H H' σ [.h p c, .d (.int n), .d (.int r), .l l (ps.map Pt.pairD), .d (.int k), c5] ∧ Upto n k ((k : Int) + 1 + i) ps ∧ ps.length ≤ 6 * k + i) (fun H1 w1 => ⟨_, ps, w1, hu.mono (.inl (.inr ⟨rfl, by show (0 : Int) < (k : Int) + 1 + ((0 : Nat) : Int); omega⟩)), by omega⟩) ?_ ?_
      · rintro i σ H' hi ⟨c5, ps, w5, hu, hl⟩
        have w6 : Wd K E.C_Trade [p, c] [] H H' _ [.h p c, .d (.int n), .d (.int r), .l l (ps.map Pt.pairD), .d (.int k), .d (.int ((k : Int) + 1 + i))] := w5.set 5 (v := .int ((k : Int) + 1 + i)) (.int _)
        have e1 : (k : Int) + 1 + ((i + 1 : Nat) : Int) = (k : Int) + 1 + (i : Int) + 1 := by omega
        refine s_ifD w6 (dt_or (dt_of fun H w => by walk_at "et") (dt_and (dt_of fun H w => by walk_at "et") (dt_eqN rfl (by decide) (by decide)))) (fun H7 w7 => ?_) (fun H7 w7 => ?_)
        · refine s_app w7 rfl (d := Pt.pairD ((k : Int), (k : Int) + 1 + i)) (ev_tup (ed_cons (ev_var w7 rfl) (ed_cons (ev_var w7 rfl) ed_nil))) (by rw [List.length_map]; omega) fun H8 w8 => ?_
          refine ⟨.d (.int ((k : Int) + 1 + i)), ps ++ [((k : Int), (k : Int) + 1 + i)], ?_, ?_, by simp; omega⟩
          · rw [List.map_append]
            exact w8
          · rw [e1]
            exact hu.snoc (by omega) (by omega) (by omega)
        · exact s_next ⟨_, ps, w7, by rw [e1]; exact hu.mono (.inl (.inr ⟨rfl, by show (k : Int) + 1 + i < (k : Int) + 1 + i + 1; omega⟩)), by omega⟩
      · rintro σ H' ⟨c5, ps, w5, hu, hl⟩
        exact ⟨_, _, ps, w5, hu.mono (.inl (.inl (by show (k : Int) < ((k + 1 : Nat) : Int); omega))), by omega⟩
    · rintro σ H' ⟨c4, c5, ps, w3, hu, hl⟩
      exact s_retDr (i := 0) w3 rfl q (ev_tupleL (ev_var w3 rfl)) ⟨n, ps, rfl, ⟨hu.1, hu.2.1, by omega⟩, rfl⟩
theorem swapAt_perm {l : List Int} {k : Nat} (h : k + 1 < l.length) : (swapAt l k).Perm l := by
  have e : l = l.take k ++ (l[k] :: l[k + 1] :: l.drop (k + 2)) := by
    rw [← List.drop_eq_getElem_cons h, ← List.drop_eq_getElem_cons (by omega), List.take_append_drop]
  have e1 : l.getD (k + 1) 0 = l[k + 1] := by rw [List.getD_eq_getElem?_getD, List.getElem?_eq_getElem h]; rfl
  have e2 : l.getD k 0 = l[k] := by rw [List.getD_eq_getElem?_getD, List.getElem?_eq_getElem (by omega)]; rfl
  unfold swapAt
  rw [e1, e2, List.append_assoc]
  refine List.Perm.trans ?_ (List.Perm.of_eq e.symm)
  exact List.Perm.append_left _ (List.Perm.swap _ _ _)
end
end K1
set_option maxRecDepth 10000000
namespace K1
open Pt
theorem idx_ne {x y : Int} (l : List Int) (h : y ≠ x) : (y :: l).idxOf x = l.idxOf x + 1 := by
  rw [List.idxOf_cons]
  have z : (y == x) = false := by simpa using h
  rw [z]
  rfl
theorem okAt_parts {ps : List (Int × Int)} {l : List Int} {k : Nat} (h : okAt ps l k) : ∃ u v a b, l = u ++ a :: b :: v ∧ swapAt l k = u ++ b :: a :: v ∧ u.length = k ∧ may ps a b = true := by
  have hk := okAt_lt h
  obtain ⟨a, b, ha, hb, hm⟩ := h
  have ea : l[k] = a := by rw [List.getElem?_eq_getElem (by omega)] at ha; exact Option.some.inj ha
  have eb : l[k + 1] = b := by rw [List.getElem?_eq_getElem hk] at hb; exact Option.some.inj hb
  refine ⟨l.take k, l.drop (k + 2), a, b, ?_, ?_, by rw [List.length_take]; omega, hm⟩
  · rw [← ea, ← eb, ← List.drop_eq_getElem_cons hk, ← List.drop_eq_getElem_cons (by omega), List.take_append_drop]
  · unfold swapAt
    rw [List.getD_eq_getElem?_getD, hb, List.getD_eq_getElem?_getD, ha, List.append_assoc]
    rfl
theorem okAt_of {ps : List (Int × Int)} {u v : List Int} {a b : Int} (h : may ps a b = true) : okAt ps (u ++ a :: b :: v) u.length ∧ swapAt (u ++ a :: b :: v) u.length = u ++ b :: a :: v := by
  have ha : (u ++ a :: b :: v)[u.length]? = some a := by rw [List.getElem?_append_right (Nat.le_refl _), Nat.sub_self]; rfl
  have hb : (u ++ a :: b :: v)[u.length + 1]? = some b := by rw [List.getElem?_append_right (by omega), show u.length + 1 - u.length = 1 by omega]; rfl
  refine ⟨⟨a, b, ha, hb, h⟩, ?_⟩
  unfold swapAt
  rw [List.getD_eq_getElem?_getD, hb, List.getD_eq_getElem?_getD, ha, List.take_left, List.append_assoc]
  congr 1
  have e : (u ++ a :: b :: v).drop (u.length + 2) = v := by
    rw [show u ++ a :: b :: v = (u ++ [a, b]) ++ v by simp, List.drop_append_of_le_length (by simp)]
    simp
  rw [e]
  rfl
theorem may_ne {n : Int} {ps : List (Int × Int)} (h : PairsOk n ps) {a b : Int} (m : may ps a b = true) : a ≠ b := fun e => by
  subst e
  have := (h.1 _ (of_decide_eq_true m)).2.1
  simp only at this
  omega
theorem may_comm (ps : List (Int × Int)) (a b : Int) : may ps a b = may ps b a := by
  unfold may
  rw [Int.min_comm, Int.max_comm]
theorem Walks.app {ps : List (Int × Int)} {l ks m : List Int} (h : Walks ps l ks m) : ∀ {js r : List Int}, Walks ps m js r → Walks ps l (ks ++ js) r := by
  induction h with
  | nil => intro js r g; exact g
  | cons hk _ ih => intro js r g; exact .cons hk (ih g)
theorem Walks.perm {ps : List (Int × Int)} {l ks m : List Int} (h : Walks ps l ks m) : l.Perm m := by
  induction h with
  | nil => exact .refl _
  | cons hk _ ih => exact (swapAt_perm (okAt_lt hk)).symm.trans ih
theorem only_app (u v : List Int) (a b : Int) : onlyL (u ++ v) a b = onlyL u a b ++ onlyL v a b := List.filter_append ..
theorem only_in {x a b : Int} (h : x = a ∨ x = b) (v : List Int) : onlyL (x :: v) a b = x :: onlyL v a b := List.filter_cons_of_pos (decide_eq_true h)
theorem only_out {x a b : Int} (h : ¬ (x = a ∨ x = b)) (v : List Int) : onlyL (x :: v) a b = onlyL v a b := List.filter_cons_of_neg (by simpa using h)
theorem Walks.only {n : Int} {ps : List (Int × Int)} (hp : PairsOk n ps) {l ks m : List Int} (h : Walks ps l ks m) {a b : Int} (hm : may ps a b = false) : onlyL l a b = onlyL m a b := by
  induction h with
  | nil => rfl
  | @cons l k ks m hk _ ih =>
    rw [← ih]
    obtain ⟨u, v, x, y, e1, e2, _, hxy⟩ := okAt_parts hk
    rw [e1, ← e1, e2, e1, only_app, only_app]
    congr 1
    have ne := may_ne hp hxy
    by_cases hx : x = a ∨ x = b
    · by_cases hy : y = a ∨ y = b
      · exfalso
        have : may ps a b = true := by
          rcases hx with rfl | rfl <;> rcases hy with rfl | rfl
          · exact absurd rfl ne
          · exact hxy
          · rw [may_comm]; exact hxy
          · exact absurd rfl ne
        rw [hm] at this
        cases this
      · rw [only_in hx, only_out hy, only_out hy, only_in hx]
    · rw [only_out hx]
      by_cases hy : y = a ∨ y = b
      · rw [only_in hy, only_in hy, only_out hx]
      · rw [only_out hy, only_out hy, only_out hx]
def Free (ps : List (Int × Int)) (l m : List Int) : Prop := ∀ a b, a ≠ b → may ps a b = false → onlyL l a b = onlyL m a b
theorem split_at {r : List Int} {x : Int} (h : x ∈ r) : ∃ u v, r = u ++ x :: v ∧ x ∉ u ∧ r.idxOf x = u.length ∧ r.erase x = u ++ v := by
  induction r with
  | nil => cases h
  | cons y r ih =>
    by_cases e : y = x
    · subst e
      exact ⟨[], r, rfl, by simp, by simp, by simp⟩
    · obtain ⟨u, v, h1, h2, h3, h4⟩ := ih (by
        rcases List.mem_cons.mp h with z | z
        · exact absurd z.symm e
        · exact z)
      refine ⟨y :: u, v, by rw [h1]; rfl, by simp [h2, Ne.symm e], by rw [idx_ne _ e, h3, List.length_cons], by rw [List.erase_cons_tail (by simpa using e), h4]; rfl⟩
theorem move {ps : List (Int × Int)} {x : Int} {pre : List Int} : ∀ (u v : List Int), (∀ y ∈ u, may ps y x = true) → Walks ps (pre ++ (u ++ x :: v)) ((List.range u.length).map fun i : Nat => ((pre.length + u.length : Nat) : Int) - 1 - i) (pre ++ (x :: (u ++ v))) := by
  intro u
  have key : ∀ (n : Nat) (u v : List Int), u.length = n → (∀ y ∈ u, may ps y x = true) → Walks ps (pre ++ (u ++ x :: v)) ((List.range u.length).map fun i : Nat => ((pre.length + u.length : Nat) : Int) - 1 - i) (pre ++ (x :: (u ++ v))) := by
    intro n
    induction n with
    | zero =>
      intro u v hl _
      have e : u = [] := List.length_eq_zero_iff.mp hl
      subst e
      exact .nil
    | succ n ih =>
      intro u v hl hm
      obtain ⟨u', y, rfl⟩ : ∃ u' y, u = u' ++ [y] := by
        rcases List.eq_nil_or_concat u with rfl | ⟨u', y, h⟩
        · cases hl
        · exact ⟨u', y, by rw [h]; simp⟩
      have hl' : u'.length = n := by simpa using hl
      have e0 : pre ++ ((u' ++ [y]) ++ x :: v) = (pre ++ u') ++ y :: x :: v := by simp
      obtain ⟨h1, h2⟩ := okAt_of (ps := ps) (u := pre ++ u') (v := v) (a := y) (b := x) (hm y (by simp))
      have w := ih u' (y :: v) hl' (fun z m => hm z (by simp [m]))
      have e1 : pre ++ (u' ++ x :: y :: v) = (pre ++ u') ++ x :: y :: v := by simp
      have e2 : pre ++ (x :: (u' ++ y :: v)) = pre ++ (x :: ((u' ++ [y]) ++ v)) := by simp
      rw [e1, ← h2, e2] at w
      rw [e0]
      have c := Walks.cons h1 w
      have e3 : ((pre ++ u').length : Int) :: ((List.range u'.length).map fun i : Nat => ((pre.length + u'.length : Nat) : Int) - 1 - i) = (List.range (u' ++ [y]).length).map fun i : Nat => ((pre.length + (u' ++ [y]).length : Nat) : Int) - 1 - i := by
        rw [List.length_append (as := u'), List.length_append (as := pre)]
        show _ = List.map _ (List.range (u'.length + 1))
        rw [List.range_succ_eq_map, List.map_cons, List.map_map]
        congr 1
        · simp
          omega
        · refine List.map_congr_left fun i _ => ?_
          show _ = (((pre.length + (u'.length + 1) : Nat) : Int)) - 1 - ((i + 1 : Nat) : Int)
          omega
      rw [e3] at c
      exact c
  exact fun v h => key u.length u v rfl h
theorem lead_walks {ps : List (Int × Int)} : ∀ (ms r pre : List Int), r.Perm ms → Free ps r ms → Walks ps (pre ++ r) (leadGo pre.length r ms) (pre ++ ms)
  | [], r, pre, hp, _ => by
    have e : r = [] := List.Perm.eq_nil hp
    subst e
    exact .nil
  | x :: ms, r, pre, hp, hf => by
    obtain ⟨u, v, rfl, hx, hi, he⟩ := split_at (hp.mem_iff.mpr List.mem_cons_self)
    have hm : ∀ y ∈ u, may ps y x = true := fun y my => by
      cases q : may ps y x with
      | true => rfl
      | false =>
        exfalso
        have ne : y ≠ x := fun z => hx (z ▸ my)
        have e := hf y x ne q
        rw [only_app, only_in (.inr rfl), only_in (.inr rfl)] at e
        have hy : y ∈ onlyL u y x := List.mem_filter.mpr ⟨my, by simp⟩
        cases z : onlyL u y x with
        | nil => rw [z] at hy; cases hy
        | cons w t =>
          rw [z] at e
          have e1 : w = x := by simpa using (List.cons.inj e).1
          have : w ∈ u := (List.mem_filter.mp (show w ∈ onlyL u y x by rw [z]; exact List.mem_cons_self)).1
          exact hx (e1 ▸ this)
    have hp' : (u ++ v).Perm ms := by
      have := hp.erase x
      rw [he, List.erase_cons_head] at this
      exact this
    have hf' : Free ps (u ++ v) ms := fun a b ne q => by
      have e := hf a b ne q
      rw [only_app] at e
      rw [only_app]
      by_cases hxab : x = a ∨ x = b
      · rw [only_in hxab, only_in hxab] at e
        cases z : onlyL u a b with
        | nil => rw [z] at e; simpa using e
        | cons w t =>
          rw [z] at e
          have e1 : w = x := by simpa using (List.cons.inj e).1
          have : w ∈ u := (List.mem_filter.mp (show w ∈ onlyL u a b by rw [z]; exact List.mem_cons_self)).1
          exact absurd (e1 ▸ this) hx
      · rw [only_out hxab, only_out hxab] at e
        exact e
    have w1 := move (pre := pre) u v hm
    have w2 := lead_walks ms (u ++ v) (pre ++ [x]) hp' hf'
    have e1 : (pre ++ [x]) ++ (u ++ v) = pre ++ (x :: (u ++ v)) := by simp
    have e2 : (pre ++ [x]) ++ ms = pre ++ (x :: ms) := by simp
    have e3 : (pre ++ [x]).length = pre.length + 1 := by simp
    rw [e1, e2, e3] at w2
    have c := w1.app w2
    unfold leadGo
    rw [hi, he]
    exact c
end K1
set_option maxRecDepth 10000000
namespace K1
open Pt
def rowIn (n : Int) (l : List Int) : Prop := ∀ x ∈ l, 0 ≤ x ∧ x < n
end K1
set_option maxRecDepth 10000000
namespace K1
open PySem PySem.Spec PyProof.Rows L2 Pt
local macro_rules
  | `(tactic| walk_at "sz") => `(tactic| first
    | omega
    | decide
    | (simp; omega)
    | (simp [iL, row, pairsD]; omega))
  | `(tactic| walk_at "ea") => `(tactic| first
    | (with_reducible exact ea_nil)
    | ((with_reducible apply ea_consL); (focus (walk_at "ev")); (focus (walk_at "ea")))
    | ((with_reducible apply ea_consS); (focus (walk_at "ev")); (focus (walk_at "ea")))
    | ((with_reducible apply ea_cons); (focus (walk_at "ev")); (focus (walk_at "ea")))
    | ((with_reducible apply ea_consN); (focus (walk_at "en")); (focus (walk_at "ea"))))
  | `(tactic| walk_at "ed") => `(tactic| first
    | (with_reducible exact ed_nil)
    | ((with_reducible apply ed_cons); (focus (walk_at "ev")); (focus (walk_at "ed"))))
  | `(tactic| walk_at "en") => `(tactic| first
    | ((with_reducible apply en_lst); (focus (walk_at "ed")); (focus (simp)))
    | ((with_reducible apply en_listT); (focus (walk_at "ev")))
    | ((with_reducible apply en_addL); (focus (walk_at "ev")); (focus (walk_at "en")); (focus (walk_at "sz")))
    | ((with_reducible apply en_addN); (focus (walk_at "en")); (focus (walk_at "en")); (focus (walk_at "sz")))
    | ((with_reducible apply en_slL); (focus (walk_at "ev")); (focus (walk_at "eo")); (focus (walk_at "eo"))))
  | `(tactic| walk_at "eo") => `(tactic| first
    | (with_reducible exact eo_none)
    | ((with_reducible apply eo_some); (focus (walk_at "ev"))))
  | `(tactic| walk_at "et") => `(tactic| first
    | (with_reducible exact et_yes)
    | ((with_reducible apply et_test); (focus (walk_at "ev")))
    | ((with_reducible apply et_B); (focus (walk_at "ev")))
    | ((with_reducible apply et_truB); (focus (walk_at "ev")))
    | ((with_reducible apply et_truT); (focus (walk_at "ev")))
    | ((with_reducible apply et_not); (focus (walk_at "et")))
    | ((with_reducible apply et_and); (focus (walk_at "et")); (focus (intro _; walk_at "et")))
    | ((with_reducible apply et_or); (focus (walk_at "et")); (focus (intro _; walk_at "et"))))
  | `(tactic| walk_at "var") => `(tactic| first
    | ((with_reducible apply ev_varD); (focus (assumption)); (focus (rfl)))
    | ((with_reducible apply ev_varL); (focus (assumption)); (focus (rfl)))
    | ((with_reducible apply ev_varS); (focus (assumption)); (focus (rfl)))
    | ((with_reducible apply ev_varT); (focus (assumption)); (focus (rfl)))
    | ((with_reducible apply ev_varH); (focus (assumption)); (focus (rfl)))
    | ((with_reducible apply ev_varZ); (focus (assumption)); (focus (rfl))))
  | `(tactic| walk_at "ev") => `(tactic| first
    | walk_at "var"
    | (with_reducible exact ev_int)
    | (with_reducible exact ev_bl)
    | (with_reducible exact ev_str)
    | (with_reducible exact ev_non)
    | ((with_reducible apply ev_letters); (focus (walk_at "ev")))
    | ((with_reducible apply ev_pairs); (focus (walk_at "ev")))
    | ((with_reducible apply ev_addI); (focus (walk_at "ev")); (focus (walk_at "ev")))
    | ((with_reducible apply ev_addT); (focus (walk_at "ev")); (focus (walk_at "ev")); (focus (walk_at "sz")))
    | ((with_reducible apply ev_i0); (focus (walk_at "ev")); (focus (walk_at "ev")); (focus (first | exact fun _ => .int _ | exact fun _ => .bl _)))
    | ((with_reducible apply ev_iC); (focus (walk_at "ev")); (focus (walk_at "ev")); (focus (first | assumption | walk_at "cond")); (focus (exact fun _ => .int _)))
    | ((with_reducible apply ev_chain); (focus (walk_at "ev")); (focus (walk_at "ev")); (focus (walk_at "ev")))
    | ((with_reducible apply ev_eqI); (focus (walk_at "ev")); (focus (walk_at "ev")))
    | ((with_reducible apply ev_neI); (focus (walk_at "ev")); (focus (walk_at "ev")))
    | ((with_reducible apply ev_eqR); (focus (walk_at "ev")); (focus (walk_at "ev")))
    | ((with_reducible apply ev_neR); (focus (walk_at "ev")); (focus (walk_at "ev")))
    | ((with_reducible apply ev_isN); (focus (walk_at "ev")))
    | ((with_reducible apply ev_notN); (focus (walk_at "ev")))
    | ((with_reducible apply ev_in2); (focus (walk_at "ev")); (focus (walk_at "ev")); (focus (walk_at "ev")))
    | ((with_reducible apply ev_inP); (focus (walk_at "ev")); (focus (walk_at "ev")))
    | ((with_reducible apply ev_tup); (focus (walk_at "ed")); (focus (simp)))
    | ((with_reducible apply ev_lenT); (focus (walk_at "ev")))
    | ((with_reducible apply ev_lenL); (focus (walk_at "ev")))
    | ((with_reducible apply ev_lenS); (focus (walk_at "ev")))
    | ((with_reducible apply ev_lenN); (focus (walk_at "en")))
    | ((with_reducible apply ev_max2); (focus (walk_at "ev")); (focus (walk_at "ev")))
    | ((with_reducible apply ev_min2); (focus (walk_at "ev")); (focus (walk_at "ev")))
    | ((with_reducible apply ev_int1); (focus (walk_at "ev")))
    | ((with_reducible apply ev_tupleL); (focus (walk_at "ev")))
    | ((with_reducible apply ev_tupleN); (focus (walk_at "en")))
    | ((with_reducible apply ev_countT); (focus (walk_at "ev")); (focus (walk_at "ev")))
    | ((with_reducible apply ev_andV); (focus (walk_at "ev")); (focus (intro _; walk_at "ev")))
    | ((with_reducible apply ev_orV); (focus (walk_at "ev")); (focus (intro _; walk_at "ev")))
    | ((with_reducible apply ev_notV); (focus (walk_at "ev"))))
section
variable {P : Program} {w : World} {K : PySem.W.Frag} {mg : Str → Option Value} {base : Heap}
end
end K1
set_option maxRecDepth 10000000
namespace K1
open PySem PySem.Spec PyProof.Rows L2 Pt
local macro_rules
  | `(tactic| walk_at "sz") => `(tactic| first
    | omega
    | decide
    | (simp; omega)
    | (simp [iL, row, pairsD]; omega))
  | `(tactic| walk_at "ea") => `(tactic| first
    | (with_reducible exact ea_nil)
    | ((with_reducible apply ea_consL); (focus (walk_at "ev")); (focus (walk_at "ea")))
    | ((with_reducible apply ea_consS); (focus (walk_at "ev")); (focus (walk_at "ea")))
    | ((with_reducible apply ea_cons); (focus (walk_at "ev")); (focus (walk_at "ea")))
    | ((with_reducible apply ea_consN); (focus (walk_at "en")); (focus (walk_at "ea"))))
  | `(tactic| walk_at "ed") => `(tactic| first
    | (with_reducible exact ed_nil)
    | ((with_reducible apply ed_cons); (focus (walk_at "ev")); (focus (walk_at "ed"))))
  | `(tactic| walk_at "en") => `(tactic| first
    | ((with_reducible apply en_lst); (focus (walk_at "ed")); (focus (simp)))
    | ((with_reducible apply en_listT); (focus (walk_at "ev")))
    | ((with_reducible apply en_addL); (focus (walk_at "ev")); (focus (walk_at "en")); (focus (walk_at "sz")))
    | ((with_reducible apply en_addN); (focus (walk_at "en")); (focus (walk_at "en")); (focus (walk_at "sz")))
    | ((with_reducible apply en_slL); (focus (walk_at "ev")); (focus (walk_at "eo")); (focus (walk_at "eo"))))
  | `(tactic| walk_at "eo") => `(tactic| first
    | (with_reducible exact eo_none)
    | ((with_reducible apply eo_some); (focus (walk_at "ev"))))
  | `(tactic| walk_at "et") => `(tactic| first
    | (with_reducible exact et_yes)
    | ((with_reducible apply et_test); (focus (walk_at "ev")))
    | ((with_reducible apply et_B); (focus (walk_at "ev")))
    | ((with_reducible apply et_truB); (focus (walk_at "ev")))
    | ((with_reducible apply et_truT); (focus (walk_at "ev")))
    | ((with_reducible apply et_not); (focus (walk_at "et")))
    | ((with_reducible apply et_and); (focus (walk_at "et")); (focus (intro _; walk_at "et")))
    | ((with_reducible apply et_or); (focus (walk_at "et")); (focus (intro _; walk_at "et"))))
  | `(tactic| walk_at "var") => `(tactic| first
    | ((with_reducible apply ev_varD); (focus (assumption)); (focus (rfl)))
    | ((with_reducible apply ev_varL); (focus (assumption)); (focus (rfl)))
    | ((with_reducible apply ev_varS); (focus (assumption)); (focus (rfl)))
    | ((with_reducible apply ev_varT); (focus (assumption)); (focus (rfl)))
    | ((with_reducible apply ev_varH); (focus (assumption)); (focus (rfl)))
    | ((with_reducible apply ev_varZ); (focus (assumption)); (focus (rfl))))
  | `(tactic| walk_at "ev") => `(tactic| first
    | walk_at "var"
    | (with_reducible exact ev_int)
    | (with_reducible exact ev_bl)
    | (with_reducible exact ev_str)
    | (with_reducible exact ev_non)
    | ((with_reducible apply ev_letters); (focus (walk_at "ev")))
    | ((with_reducible apply ev_pairs); (focus (walk_at "ev")))
    | ((with_reducible apply ev_addI); (focus (walk_at "ev")); (focus (walk_at "ev")))
    | ((with_reducible apply ev_addT); (focus (walk_at "ev")); (focus (walk_at "ev")); (focus (walk_at "sz")))
    | ((with_reducible apply ev_i0); (focus (walk_at "ev")); (focus (walk_at "ev")); (focus (first | exact fun _ => .int _ | exact fun _ => .bl _)))
    | ((with_reducible apply ev_iC); (focus (walk_at "ev")); (focus (walk_at "ev")); (focus (first | assumption | walk_at "cond")); (focus (exact fun _ => .int _)))
    | ((with_reducible apply ev_chain); (focus (walk_at "ev")); (focus (walk_at "ev")); (focus (walk_at "ev")))
    | ((with_reducible apply ev_eqI); (focus (walk_at "ev")); (focus (walk_at "ev")))
    | ((with_reducible apply ev_neI); (focus (walk_at "ev")); (focus (walk_at "ev")))
    | ((with_reducible apply ev_eqR); (focus (walk_at "ev")); (focus (walk_at "ev")))
    | ((with_reducible apply ev_neR); (focus (walk_at "ev")); (focus (walk_at "ev")))
    | ((with_reducible apply ev_isN); (focus (walk_at "ev")))
    | ((with_reducible apply ev_notN); (focus (walk_at "ev")))
    | ((with_reducible apply ev_in2); (focus (walk_at "ev")); (focus (walk_at "ev")); (focus (walk_at "ev")))
    | ((with_reducible apply ev_inP); (focus (walk_at "ev")); (focus (walk_at "ev")))
    | ((with_reducible apply ev_tup); (focus (walk_at "ed")); (focus (simp)))
    | ((with_reducible apply ev_lenT); (focus (walk_at "ev")))
    | ((with_reducible apply ev_lenL); (focus (walk_at "ev")))
    | ((with_reducible apply ev_lenS); (focus (walk_at "ev")))
    | ((with_reducible apply ev_lenN); (focus (walk_at "en")))
    | ((with_reducible apply ev_max2); (focus (walk_at "ev")); (focus (walk_at "ev")))
    | ((with_reducible apply ev_min2); (focus (walk_at "ev")); (focus (walk_at "ev")))
    | ((with_reducible apply ev_int1); (focus (walk_at "ev")))
    | ((with_reducible apply ev_tupleL); (focus (walk_at "ev")))
    | ((with_reducible apply ev_tupleN); (focus (walk_at "en")))
    | ((with_reducible apply ev_countT); (focus (walk_at "ev")); (focus (walk_at "ev")))
    | ((with_reducible apply ev_andV); (focus (walk_at "ev")); (focus (intro _; walk_at "ev")))
    | ((with_reducible apply ev_orV); (focus (walk_at "ev")); (focus (intro _; walk_at "ev")))
    | ((with_reducible apply ev_notV); (focus (walk_at "ev"))))
section
variable {P : Program} {w : World} {K : PySem.W.Frag} {mg : Str → Option Value} {base : Heap}
def barN (ps : List (Int × Int)) (a : Int) : Nat → Nat
  | 0 => 0
  | k + 1 => if may ps a k = true then barN ps a k else barN ps a k ||| 2 ^ k
theorem barN_bit (ps : List (Int × Int)) (a : Int) : ∀ k j : Nat, (barN ps a k).testBit j = (decide (j < k) && !may ps a j)
  | 0, j => by simp [barN]
  | k + 1, j => by
    unfold barN
    by_cases h : may ps a k = true
    · rw [if_pos h, barN_bit ps a k j]
      by_cases e : j = k
      · subst e; simp [h]
      · rw [show decide (j < k + 1) = decide (j < k) by congr 1; simp; omega]
    · rw [if_neg h, Nat.testBit_or, barN_bit ps a k j, Nat.testBit_two_pow]
      by_cases e : j = k
      · subst e; simp [h]
      · rw [show decide (j < k + 1) = decide (j < k) by congr 1; simp; omega, decide_eq_false (p := k = j) (fun z => e z.symm), Bool.or_false]
def barsL (n : Int) (ps : List (Int × Int)) : List Int := (List.range n.toNat).map fun a : Nat => ((barN ps a n.toNat : Nat) : Int)
theorem bitOr_nat (a b : Nat) : Builtin.bitOr (a : Int) (b : Int) = ((a ||| b : Nat) : Int) := by
  rw [Bits.bitOr_pp (Int.natCast_nonneg a) (Int.natCast_nonneg b)]
  simp
abbrev A_bars_of (as : List Ag) (ds : List PyData) : Prop := ∃ (n : Int) (ps : List (Int × Int)), 0 ≤ n ∧ n ≤ 6 ∧ as = [.c (.t n ps)] ∧ ds = iL (barsL n ps)
theorem ok_bars_of (E : Nv K mg) : FnOk P w K mg base CX0 12 E.a_bars_of E.d_bars_of ["trade"] (spN K E.C_Trade A_bars_of) := by
  refine E.F_bars_of.ok sc_bars_of (fun vs H Q _ h => ?_) (fun cdv A outer s H vs Q _ hr h => ?_)
  · obtain ⟨as, d, ha, ⟨_, _, _, _, rfl, _⟩, _⟩ := h
    exact ha.length
  · obtain ⟨as, d, ha, ⟨n, ps, h0, h6, rfl, rfl⟩, q⟩ := h
    obtain ⟨v1, rfl, a1⟩ := ha.one
    refine ⟨_, (pss_cons (ps_set (i := 1) sc_bars_of.nd rfl (.inl rfl) (pe_lst pa_nil))
      (pss_cons (ps_for PassesOwn.never rfl (pi_range1 (by rfl) E.n_range (pa_cons (pe_prop (pv 0) E.cl E.p_letters (ok_Trade_letters E) (hr.mono (by first | decide | omega)) E.b_Trade_letters .nil pass0 rfl) pa_nil)) (pg_name (i := 2) sc_bars_of.nd rfl (.inl rfl))
      (pss_cons (ps_set (i := 3) sc_bars_of.nd rfl (.inl rfl) pe_int)
      (pss_cons (ps_for PassesOwn.never rfl (pi_range1 (by rfl) E.n_range (pa_cons (pe_prop (pv 0) E.cl E.p_letters (ok_Trade_letters E) (hr.mono (by first | decide | omega)) E.b_Trade_letters .nil pass0 rfl) pa_nil)) (pg_name (i := 4) sc_bars_of.nd rfl (.inl rfl))
      (pss_one (ps_if (pt_not (pt_truK K (pe_call (ok_may_change E) (hr.mono (by first | decide | omega)) (by rfl) E.m_may_change E.F_may_change.kp E.b_may_change .nil pass0 (pa_cons (pv 0) (pa_cons (pv 2) (pa_cons (pv 4) pa_nil)))) (fun _ => rfl))) (pss_one (ps_set (i := 3) sc_bars_of.nd rfl (.inl rfl) (pe_op op_or (pv 3) (pe_op op_shl pe_int (pv 4))))) pss_nil)))
      (pss_one (ps_expr (pe_bm PySem.F.plainAttrs_list PySem.F.slot_list_append PySem.F.type_list_append mt_append (pv 1) (pa_cons (pv 3) pa_nil)))))))
      (pss_one (ps_ret (pv 1))))), ?_⟩
    have w : Wd K E.C_Trade [] [] H H _ [.t n ps, .u, .u, .u, .u] := Wd.start1 (N := N_bars_of) a1
    refine q_asgN w (en_lst ed_nil) fun p σ1 H1 hp1 w1 => ?_
    refine q_forR1 w1 (n := n) (by walk_at "ea") (by omega) (fun k σ H' => ∃ c2 c3 c4, Wd K E.C_Trade [] [] H H' σ [.t n ps, .l p (iL ((barsL n ps).take k)), c2, c3, c4]) (fun H1 w1 => ⟨_, _, _, w1⟩) ?_ ?_
    · rintro k σ H' hk ⟨c2, c3, c4, w2⟩
      have w3 : Wd K E.C_Trade [] [] H H' _ [.t n ps, .l p (iL ((barsL n ps).take k)), .d (.int k), c3, c4] := w2.set 2 (v := .int k) (c := .d (.int k)) (Td.int _)
      refine q_asgD w3 ev_int fun σ4 H4 w4 => ?_
      refine q_forR1 w4 (n := n) (by walk_at "ea") (by omega) (fun i σ H' => ∃ c4, Wd K E.C_Trade [] [] H H' σ [.t n ps, .l p (iL ((barsL n ps).take k)), .d (.int k), .d (.int (barN ps k i : Nat)), c4]) (fun H1 w1 => ⟨_, w1⟩) ?_ ?_
      · rintro i σ H' hi ⟨c4, w5⟩
        have w6 : Wd K E.C_Trade [] [] H H' _ [.t n ps, .l p (iL ((barsL n ps).take k)), .d (.int k), .d (.int (barN ps k i : Nat)), .d (.int i)] := w5.set 4 (v := .int i) (c := .d (.int i)) (Td.int _)
        refine s_if w6 (b := !may ps k i) (et_not (et_truB (ev_call (by walk_at "ea") ⟨_, _, _, _, rfl, rfl⟩))) (fun e H7 w7 => ?_) (fun e H7 w7 => ?_)
        · have e' : ¬ may ps k i = true := by simpa using e
          refine s_asgD w7 (d := .int (barN ps k (i + 1) : Nat)) (ev_d (ev_i0 (ev_var w7 rfl) (ev_iC (d := .int (1 * 2 ^ (i : Int).toNat)) ev_int (ev_var w7 rfl) ⟨by omega, by omega, by decide⟩ (fun _ => .int _)) (fun _ => .int _)) ?_) fun σ8 H8 w8 => ⟨_, w8⟩
          rw [Int.toNat_natCast, Int.one_mul, show ((2 : Int) ^ i) = ((2 ^ i : Nat) : Int) by simp, bitOr_nat]
          rw [show barN ps k (i + 1) = barN ps k i ||| 2 ^ i from if_neg e']
        · have e' : may ps k i = true := by simpa using e
          refine s_next ⟨.d (.int i), ?_⟩
          rw [show barN ps k (i + 1) = barN ps k i from if_pos e']
          exact w7
      · rintro σ H' ⟨c4, w5⟩
        refine s_app w5 rfl (ev_var w5 rfl) (by rw [iL_len, List.length_take]; omega) fun H8 w8 => ⟨.d (.int k), .d (.int (barN ps k n.toNat : Nat)), c4, ?_⟩
        have hk' : k < n.toNat := by omega
        have e0 : (barsL n ps)[k]? = some ((barN ps k n.toNat : Nat) : Int) := by
          unfold barsL
          rw [List.getElem?_map, List.getElem?_range hk']
          rfl
        rw [List.take_add_one, e0, iL_app]
        exact w8
    · rintro σ H' ⟨c2, c3, c4, w2⟩
      have e : (barsL n ps).take n.toNat = barsL n ps := List.take_of_length_le (by unfold barsL; rw [List.length_map, List.length_range]; exact Nat.le_refl _)
      rw [e] at w2
      exact s_retLQ w2 q rfl
def canFirst (ps : List (Int × Int)) (l : List Int) (p : Nat) : Bool := (l.take p).all fun x => may ps x (l.getD p 0)
def firstsL (ps : List (Int × Int)) (l : List Int) : List (Int × Int) := ((List.range l.length).filter (canFirst ps l)).map fun p : Nat => (l.getD p 0, (p : Int))
def barred (n : Int) (ps : List (Int × Int)) : List Int → Nat
  | [] => 0
  | x :: r => barN ps x n.toNat ||| barred n ps r
theorem barred_bit (n : Int) (ps : List (Int × Int)) (j : Nat) : ∀ l : List Int, (barred n ps l).testBit j = (decide (j < n.toNat) && !(l.all fun x => may ps x j))
  | [] => by simp [barred]
  | x :: r => by
    unfold barred
    rw [Nat.testBit_or, barN_bit, barred_bit n ps j r, List.all_cons, Bool.not_and, Bool.and_or_distrib_left]
theorem barred_snoc (n : Int) (ps : List (Int × Int)) (x : Int) : ∀ l : List Int, barred n ps (l ++ [x]) = barred n ps l ||| barN ps x n.toNat
  | [] => by simp [barred]
  | y :: r => by
    show barN ps y n.toNat ||| barred n ps (r ++ [x]) = (barN ps y n.toNat ||| barred n ps r) ||| barN ps x n.toNat
    rw [barred_snoc n ps x r, Nat.or_assoc]
theorem bars_get {n : Int} {ps : List (Int × Int)} {x : Int} (h0 : 0 ≤ x) (hn : x < n) : atI (iL (barsL n ps)) x = some (.int (barN ps x n.toNat : Nat)) := by
  have e : x = ((x.toNat : Nat) : Int) := by omega
  rw [e]
  refine atI_nat ?_
  rw [iL_get]
  unfold barsL
  rw [List.getElem?_map, List.getElem?_range (by omega)]
  simp only [Option.map_some, ← e]
theorem shr_and (b j : Nat) : Builtin.bitAnd ((b : Int) / 2 ^ j) 1 = (if b.testBit j = true then 1 else 0 : Int) := by
  rw [PyProof.Rows.bitAnd_m1, show (2 : Int) ^ j = ((2 ^ j : Nat) : Int) by simp, ← Int.natCast_ediv, Nat.testBit_eq_decide_div_mod_eq]
  have h : b / 2 ^ j % 2 < 2 := Nat.mod_lt _ (by decide)
  by_cases e : b / 2 ^ j % 2 = 1
  · rw [if_pos (decide_eq_true e)]
    omega
  · rw [if_neg (by simpa using e)]
    omega
abbrev A_first_letters (as : List Ag) (ds : List PyData) : Prop := ∃ (n : Int) (ps : List (Int × Int)) (l : List Int), PairsOk n ps ∧ 0 ≤ n ∧ n ≤ 6 ∧ l.length ≤ 20 ∧ rowIn n l ∧ as = [.n (iL (barsL n ps)), .c (.d (row l))] ∧ ds = (firstsL ps l).map Pt.pairD
theorem can_bit {n : Int} {ps : List (Int × Int)} {l : List Int} {t : Nat} (ht : t < l.length) (h : rowIn n l) : (!(barred n ps (l.take t)).testBit l[t].toNat) = canFirst ps l t := by
  have hx := h _ (List.getElem_mem ht)
  rw [barred_bit, decide_eq_true (show l[t].toNat < n.toNat by omega), Bool.true_and, Bool.not_not]
  unfold canFirst
  have e1 : l.getD t 0 = l[t] := by rw [List.getD_eq_getElem?_getD, List.getElem?_eq_getElem ht]; rfl
  rw [e1, Int.toNat_of_nonneg hx.1]
def firstsTo (ps : List (Int × Int)) (l : List Int) (t : Nat) : List (Int × Int) := ((List.range t).filter (canFirst ps l)).map fun p : Nat => (l.getD p 0, (p : Int))
theorem firstsTo_succ (ps : List (Int × Int)) (l : List Int) (t : Nat) : firstsTo ps l (t + 1) = if canFirst ps l t = true then firstsTo ps l t ++ [(l.getD t 0, (t : Int))] else firstsTo ps l t := by
  unfold firstsTo
  rw [List.range_succ, List.filter_append, List.map_append]
  cases e : canFirst ps l t <;> simp [e]
theorem firstsTo_len (ps : List (Int × Int)) (l : List Int) (t : Nat) : (firstsTo ps l t).length ≤ t := by
  unfold firstsTo
  rw [List.length_map]
  exact Nat.le_trans (List.length_filter_le _ _) (by rw [List.length_range]; exact Nat.le_refl _)
theorem ok_first_letters (E : Nv K mg) : FnOk P w K mg base CX0 4 E.a_first_letters E.d_first_letters ["bars", "row"] (spN K E.C_Trade A_first_letters) := by
  refine E.F_first_letters.ok sc_first_letters (fun vs H Q _ h => ?_) (fun cdv A outer s H vs Q _ hr h => ?_)
  · obtain ⟨as, d, ha, ⟨_, _, _, _, _, _, _, _, rfl, _⟩, _⟩ := h
    exact ha.length
  · obtain ⟨as, d, ha, ⟨n, ps, l, hok, h0, h6, hl, hin, rfl, rfl⟩, q⟩ := h
    obtain ⟨v1, v2, rfl, a1, a2⟩ := ha.two
    obtain ⟨pb, a1⟩ := a1.lent
    refine ⟨_, (pss_cons (ps_set (i := 2) sc_first_letters.nd rfl (.inl rfl) (pe_lst pa_nil))
      (pss_cons (ps_set (i := 3) sc_first_letters.nd rfl (.inl rfl) pe_int)
      (pss_cons (ps_for PassesOwn.never rfl (pi_enumTK K (by rfl) E.n_enumerate (pa_cons (pv 1) pa_nil)) (pg_tupK K (n := 2) rfl (pgs_cons (pg_name (i := 4) sc_first_letters.nd rfl (.inl rfl)) (pgs_cons (pg_name (i := 5) sc_first_letters.nd rfl (.inl rfl)) pgs_nil)))
      (pss_cons (ps_if (pt_cmpR (op_eqK K hr.units) (pe_op op_and (pe_op op_shr (pv 3) (pv 5)) pe_int) pe_int (nomark _)) (pss_one (ps_expr (pe_bm PySem.F.plainAttrs_list PySem.F.slot_list_append PySem.F.type_list_append mt_append (pv 2) (pa_cons (pe_tupF (pa_cons (pv 5) (pa_cons (pv 4) pa_nil))) pa_nil)))) pss_nil)
      (pss_one (ps_set (i := 3) sc_first_letters.nd rfl (.inl rfl) (pe_op op_or (pv 3) (pe_ix (ix_K K) (pv 0) (pv 5) (fun _ _ => rfl)))))))
      (pss_one (ps_ret (pv 2)))))), ?_⟩
    have w : Wd K E.C_Trade [] [] H H _ [.s pb (iL (barsL n ps)), .d (row l), .u, .u, .u, .u] := Wd.start2 (N := N_first_letters) a1 a2
    refine q_asgN w (en_lst ed_nil) fun p σ1 H1 hp1 w1 => ?_
    refine q_asgD w1 ev_int fun σ2 H2 w2 => ?_
    refine q_forE w2 (ev_var w2 rfl) (fun a t σ H' => ∃ c4 c5, Wd K E.C_Trade [] [(.ref a, row l)] H H' σ [.s pb (iL (barsL n ps)), .d (row l), .l p ((firstsTo ps l t).map Pt.pairD), .d (.int (barred n ps (l.take t) : Nat)), c4, c5]) (fun a H3 w3 => ⟨_, _, w3⟩) (fun a t σ H' ⟨_, _, w3⟩ => w3.gh0) ?_ ?_
    · rintro a t d v σ H' H3 hd tv ⟨c4, c5, w3⟩ e3
      have ht : t < l.length := by
        have := (List.getElem?_eq_some_iff.mp hd).1
        rw [iL_len] at this
        exact this
      have ed : d = .int l[t] := by
        rw [iL_get, List.getElem?_eq_getElem ht] at hd
        exact (Option.some.inj hd).symm
      subst ed
      have hx := hin _ (List.getElem_mem ht)
      have ge : l.getD t 0 = l[t] := by rw [List.getD_eq_getElem?_getD, List.getElem?_eq_getElem ht]; rfl
      have w4 : Wd K E.C_Trade [] [(.ref a, row l)] H H3 _ [.s pb (iL (barsL n ps)), .d (row l), .l p ((firstsTo ps l t).map Pt.pairD), .d (.int (barred n ps (l.take t) : Nat)), .d (.int (t : Nat)), .d (.int l[t])] := ((w3.mono e3).set 4 (v := .int (t : Nat)) (c := .d (.int (t : Nat))) (Td.int _)).set 5 tv
      have w5' : ∀ H5 σ5 ds, Wd K E.C_Trade [] [(.ref a, row l)] H H5 σ5 [.s pb (iL (barsL n ps)), .d (row l), .l p ds, .d (.int (barred n ps (l.take t) : Nat)), .d (.int (t : Nat)), .d (.int l[t])] → ds = (firstsTo ps l (t + 1)).map Pt.pairD → ∀ D : Ends, (∀ σ H', (∃ c4 c5, Wd K E.C_Trade [] [(.ref a, row l)] H H' σ [.s pb (iL (barsL n ps)), .d (row l), .l p ((firstsTo ps l (t + 1)).map Pt.pairD), .d (.int (barred n ps (l.take (t + 1)) : Nat)), c4, c5]) → D.nx σ H') →
          tAsg (tOp (rI0 fun i j => V.int (Builtin.bitOr i j)) (tVar 3) (tOp (rIx K) (tVar 0) (tVar 5))) (gName 3) D σ5 H5 := fun H5 σ5 ds w5 eds D k => by
        subst eds
        refine s_asgD w5 (d := .int (barred n ps (l.take (t + 1)) : Nat)) (ev_d (ev_i0 (ev_var w5 rfl) (ev_ixS (ev_var w5 rfl) (ev_var w5 rfl) (bars_get hx.1 hx.2)) (fun _ => .int _)) ?_) fun σ6 H6 w6 => k _ _ ⟨_, _, w6⟩
        rw [bitOr_nat, List.take_succ_eq_append_getElem ht, barred_snoc]
      refine q_if w4 (b := canFirst ps l t) (et_cast (et_test (ev_eqI (ev_i0 (ev_iC (d := .int ((barred n ps (l.take t) : Nat) / 2 ^ l[t].toNat)) (ev_var w4 rfl) (ev_var w4 rfl) hx.1 (fun _ => .int _)) ev_int (fun _ => .int _)) ev_int)) ?_) (fun e H5 w5 => ?_) (fun e H5 w5 => ?_)
      · rw [shr_and, ← can_bit ht hin]
        cases (barred n ps (l.take t)).testBit l[t].toNat <;> simp
      · refine s_app w5 rfl (d := Pt.pairD (l[t], (t : Int))) (ev_tup (ed_cons (ev_var w5 rfl) (ed_cons (ev_var w5 rfl) ed_nil))) (by rw [List.length_map]; have := firstsTo_len ps l t; omega) fun H6 w6 => ?_
        refine w5' H6 _ _ w6 ?_ _ fun _ _ z => z
        rw [firstsTo_succ, if_pos e, List.map_append, ge]
        rfl
      · refine s_next ?_
        refine w5' H5 _ _ w5 ?_ _ fun _ _ z => z
        rw [firstsTo_succ, if_neg (by rw [e]; exact Bool.false_ne_true)]
    · rintro a σ H' ⟨c4, c5, w3⟩
      rw [iL_len] at w3
      exact s_retLQ w3 q rfl
abbrev A_without (as : List Ag) (d : PyData) : Prop := ∃ (l : List Int) (p : Nat), p < l.length ∧ l.length < 1000 ∧ as = [.c (.d (row l)), .c (.d (.int (p : Nat)))] ∧ d = row (l.eraseIdx p)
theorem ok_without (E : Nv K mg) : FnOk P w K mg base CX0 4 E.a_without E.d_without ["row", "place"] (spC K E.C_Trade A_without) := by
  refine E.F_without.ok sc_without (fun vs H Q _ h => ?_) (fun cdv A outer s H vs Q _ hr h => ?_)
  · obtain ⟨as, d, ha, ⟨_, _, _, _, rfl, _⟩, _⟩ := h
    exact ha.length
  · obtain ⟨as, d, ha, ⟨l, p, hp, hl, rfl, rfl⟩, q⟩ := h
    obtain ⟨v1, v2, rfl, a1, a2⟩ := ha.two
    refine ⟨_, (pss_one (ps_ret (pe_op (op_addK K) (pe_slice (sl_K K) (pv 0) po_none (po_some (pv 1))) (pe_slice (sl_K K) (pv 0) (po_some (pe_op (op_addK K) (pv 1) pe_int)) po_none)))), ?_⟩
    have w : Wd K E.C_Trade [] [] H H _ [.d (row l), .d (.int (p : Nat))] := Wd.start2 (N := N_without) a1 a2
    have e1 : ((p : Nat) : Int) + 1 = ((p + 1 : Nat) : Int) := by omega
    refine s_retQ w q (ev_d (ev_addT (ev_slT (ev_var w rfl) eo_none (eo_some (ev_var w rfl))) (ev_slT (lo := some ((p + 1 : Nat) : Int)) (ev_var w rfl) (eo_some (ev_d (ev_addI (ev_var w rfl) ev_int) (by rw [e1]))) eo_none) ?_) ?_)
    · rw [cut_to, cut_from, List.length_take, List.length_drop, iL_len]
      omega
    · rw [cut_to, cut_from, List.eraseIdx_eq_take_drop_succ]
      show PyData.tuple _ = .tuple (iL _)
      unfold iL
      rw [List.map_append, List.map_take, List.map_drop]
end
end K1
set_option maxRecDepth 10000000
namespace K1
open PySem PySem.Spec PyProof.Rows L2 Pt
local macro_rules
  | `(tactic| walk_at "sz") => `(tactic| first
    | omega
    | decide
    | (simp; omega)
    | (simp [iL, row, pairsD]; omega))
  | `(tactic| walk_at "ea") => `(tactic| first
    | (with_reducible exact ea_nil)
    | ((with_reducible apply ea_consL); (focus (walk_at "ev")); (focus (walk_at "ea")))
    | ((with_reducible apply ea_consS); (focus (walk_at "ev")); (focus (walk_at "ea")))
    | ((with_reducible apply ea_cons); (focus (walk_at "ev")); (focus (walk_at "ea")))
    | ((with_reducible apply ea_consN); (focus (walk_at "en")); (focus (walk_at "ea"))))
  | `(tactic| walk_at "ed") => `(tactic| first
    | (with_reducible exact ed_nil)
    | ((with_reducible apply ed_cons); (focus (walk_at "ev")); (focus (walk_at "ed"))))
  | `(tactic| walk_at "en") => `(tactic| first
    | ((with_reducible apply en_lst); (focus (walk_at "ed")); (focus (simp)))
    | ((with_reducible apply en_listT); (focus (walk_at "ev")))
    | ((with_reducible apply en_addL); (focus (walk_at "ev")); (focus (walk_at "en")); (focus (walk_at "sz")))
    | ((with_reducible apply en_addN); (focus (walk_at "en")); (focus (walk_at "en")); (focus (walk_at "sz")))
    | ((with_reducible apply en_slL); (focus (walk_at "ev")); (focus (walk_at "eo")); (focus (walk_at "eo"))))
  | `(tactic| walk_at "eo") => `(tactic| first
    | (with_reducible exact eo_none)
    | ((with_reducible apply eo_some); (focus (walk_at "ev"))))
  | `(tactic| walk_at "et") => `(tactic| first
    | (with_reducible exact et_yes)
    | ((with_reducible apply et_test); (focus (walk_at "ev")))
    | ((with_reducible apply et_B); (focus (walk_at "ev")))
    | ((with_reducible apply et_truB); (focus (walk_at "ev")))
    | ((with_reducible apply et_truT); (focus (walk_at "ev")))
    | ((with_reducible apply et_not); (focus (walk_at "et")))
    | ((with_reducible apply et_and); (focus (walk_at "et")); (focus (intro _; walk_at "et")))
    | ((with_reducible apply et_or); (focus (walk_at "et")); (focus (intro _; walk_at "et"))))
  | `(tactic| walk_at "var") => `(tactic| first
    | ((with_reducible apply ev_varD); (focus (assumption)); (focus (rfl)))
    | ((with_reducible apply ev_varL); (focus (assumption)); (focus (rfl)))
    | ((with_reducible apply ev_varS); (focus (assumption)); (focus (rfl)))
    | ((with_reducible apply ev_varT); (focus (assumption)); (focus (rfl)))
    | ((with_reducible apply ev_varH); (focus (assumption)); (focus (rfl)))
    | ((with_reducible apply ev_varZ); (focus (assumption)); (focus (rfl))))
  | `(tactic| walk_at "ev") => `(tactic| first
    | walk_at "var"
    | (with_reducible exact ev_int)
    | (with_reducible exact ev_bl)
    | (with_reducible exact ev_str)
    | (with_reducible exact ev_non)
    | ((with_reducible apply ev_letters); (focus (walk_at "ev")))
    | ((with_reducible apply ev_pairs); (focus (walk_at "ev")))
    | ((with_reducible apply ev_addI); (focus (walk_at "ev")); (focus (walk_at "ev")))
    | ((with_reducible apply ev_addT); (focus (walk_at "ev")); (focus (walk_at "ev")); (focus (walk_at "sz")))
    | ((with_reducible apply ev_i0); (focus (walk_at "ev")); (focus (walk_at "ev")); (focus (first | exact fun _ => .int _ | exact fun _ => .bl _)))
    | ((with_reducible apply ev_iC); (focus (walk_at "ev")); (focus (walk_at "ev")); (focus (first | assumption | walk_at "cond")); (focus (exact fun _ => .int _)))
    | ((with_reducible apply ev_chain); (focus (walk_at "ev")); (focus (walk_at "ev")); (focus (walk_at "ev")))
    | ((with_reducible apply ev_eqI); (focus (walk_at "ev")); (focus (walk_at "ev")))
    | ((with_reducible apply ev_neI); (focus (walk_at "ev")); (focus (walk_at "ev")))
    | ((with_reducible apply ev_eqR); (focus (walk_at "ev")); (focus (walk_at "ev")))
    | ((with_reducible apply ev_neR); (focus (walk_at "ev")); (focus (walk_at "ev")))
    | ((with_reducible apply ev_isN); (focus (walk_at "ev")))
    | ((with_reducible apply ev_notN); (focus (walk_at "ev")))
    | ((with_reducible apply ev_in2); (focus (walk_at "ev")); (focus (walk_at "ev")); (focus (walk_at "ev")))
    | ((with_reducible apply ev_inP); (focus (walk_at "ev")); (focus (walk_at "ev")))
    | ((with_reducible apply ev_tup); (focus (walk_at "ed")); (focus (simp)))
    | ((with_reducible apply ev_lenT); (focus (walk_at "ev")))
    | ((with_reducible apply ev_lenL); (focus (walk_at "ev")))
    | ((with_reducible apply ev_lenS); (focus (walk_at "ev")))
    | ((with_reducible apply ev_lenN); (focus (walk_at "en")))
    | ((with_reducible apply ev_max2); (focus (walk_at "ev")); (focus (walk_at "ev")))
    | ((with_reducible apply ev_min2); (focus (walk_at "ev")); (focus (walk_at "ev")))
    | ((with_reducible apply ev_int1); (focus (walk_at "ev")))
    | ((with_reducible apply ev_tupleL); (focus (walk_at "ev")))
    | ((with_reducible apply ev_tupleN); (focus (walk_at "en")))
    | ((with_reducible apply ev_countT); (focus (walk_at "ev")); (focus (walk_at "ev")))
    | ((with_reducible apply ev_andV); (focus (walk_at "ev")); (focus (intro _; walk_at "ev")))
    | ((with_reducible apply ev_orV); (focus (walk_at "ev")); (focus (intro _; walk_at "ev")))
    | ((with_reducible apply ev_notV); (focus (walk_at "ev"))))
section
variable {P : Program} {w : World} {K : PySem.W.Frag} {mg : Str → Option Value} {base : Heap}
def ltB (p q : Int × Int) : Bool := decide (p.1 < q.1 ∨ (p.1 = q.1 ∧ p.2 < q.2))
def minP (p : Int × Int) (ps : List (Int × Int)) : Int × Int := ps.foldl (fun a y => if ltB y a = true then y else a) p
theorem minD_pairs (ps : List (Int × Int)) : ∀ p : Int × Int, PySem.W.minD (Pt.pairD p) (ps.map Pt.pairD) = Pt.pairD (minP p ps) := by
  unfold PySem.W.minD minP
  induction ps with
  | nil => intro p; rfl
  | cons y ps ih =>
    intro p
    rw [List.map_cons, List.foldl_cons, List.foldl_cons, ← ih]
    have e : PySem.W.dataLt (Pt.pairD y) (Pt.pairD p) = ltB y p := PySem.W.dataLt_ii y.1 y.2 p.1 p.2
    rw [e]
    cases ltB y p <;> rfl
theorem minP_mem (ps : List (Int × Int)) : ∀ p : Int × Int, minP p ps ∈ p :: ps := by
  unfold minP
  induction ps with
  | nil => intro p; exact List.mem_cons_self
  | cons y ps ih =>
    intro p
    rw [List.foldl_cons]
    have := ih (if ltB y p = true then y else p)
    cases h : ltB y p with
    | true =>
      rw [h, if_pos rfl] at this
      rw [if_pos rfl]
      exact List.mem_cons_of_mem _ this
    | false =>
      rw [h, if_neg Bool.false_ne_true] at this
      rw [if_neg Bool.false_ne_true]
      rcases List.mem_cons.mp this with z | z
      · rw [z]; exact List.mem_cons_self
      · exact List.mem_cons_of_mem _ (List.mem_cons_of_mem _ z)
theorem minP_le (ps : List (Int × Int)) : ∀ p : Int × Int, ∀ q ∈ p :: ps, ltB q (minP p ps) = false := by
  have tr : ∀ {a b c : Int × Int}, ltB a b = false → ltB b c = false → ltB a c = false := fun {a b c} h1 h2 => by
    unfold ltB at *
    simp only [decide_eq_false_iff_not] at *
    omega
  have rf : ∀ a : Int × Int, ltB a a = false := fun a => by
    unfold ltB
    simp
  unfold minP
  induction ps with
  | nil =>
    intro p q hq
    rw [List.mem_singleton.mp hq]
    exact rf p
  | cons y ps ih =>
    intro p q hq
    rw [List.foldl_cons]
    cases h : ltB y p with
    | true =>
      rw [if_pos rfl]
      rcases List.mem_cons.mp hq with rfl | hq
      · refine tr ?_ (ih y y List.mem_cons_self)
        unfold ltB at h ⊢
        simp only [decide_eq_false_iff_not, decide_eq_true_eq] at h ⊢
        omega
      · exact ih y q hq
    | false =>
      rw [if_neg Bool.false_ne_true]
      rcases List.mem_cons.mp hq with rfl | hq
      · exact ih q q List.mem_cons_self
      · rcases List.mem_cons.mp hq with rfl | hq
        · exact tr h (ih p p List.mem_cons_self)
        · exact ih p q (List.mem_cons_of_mem _ hq)
theorem pairs_alike (ps : List (Int × Int)) : PySem.W.AlikeAll (ps.map Pt.pairD) := by
  refine ⟨fun x hx y hy => ?_, fun x hx => ?_⟩
  · obtain ⟨p, _, rfl⟩ := List.mem_map.mp hx
    obtain ⟨q, _, rfl⟩ := List.mem_map.mp hy
    simp [Pt.pairD, PySem.W.alike, PySem.W.alikeAll]
  · obtain ⟨p, _, rfl⟩ := List.mem_map.mp hx
    intro z; cases z
def bestFirst (ps : List (Int × Int)) (l : List Int) : Int × Int := match firstsL ps l with
  | [] => (0, 0)
  | p :: r => minP p r
def leastGo (ps : List (Int × Int)) : Nat → List Int → List Int
  | 0, _ => []
  | k + 1, l => (bestFirst ps l).1 :: leastGo ps k (l.eraseIdx (bestFirst ps l).2.toNat)
def leastL (ps : List (Int × Int)) (l : List Int) : List Int := leastGo ps l.length l
theorem firsts_ne {ps : List (Int × Int)} {l : List Int} (h : 0 < l.length) : firstsL ps l ≠ [] := by
  have m : (l.getD 0 0, ((0 : Nat) : Int)) ∈ firstsL ps l := List.mem_map.mpr ⟨0, List.mem_filter.mpr ⟨List.mem_range.mpr h, by simp [canFirst]⟩, rfl⟩
  exact fun e => by rw [e] at m; cases m
theorem firsts_mem {ps : List (Int × Int)} {l : List Int} {q : Int × Int} (h : q ∈ firstsL ps l) : ∃ p : Nat, p < l.length ∧ canFirst ps l p = true ∧ q = (l.getD p 0, (p : Int)) := by
  obtain ⟨p, hp, rfl⟩ := List.mem_map.mp h
  obtain ⟨h1, h2⟩ := List.mem_filter.mp hp
  exact ⟨p, List.mem_range.mp h1, h2, rfl⟩
theorem best_mem {ps : List (Int × Int)} {l : List Int} (h : 0 < l.length) : bestFirst ps l ∈ firstsL ps l := by
  unfold bestFirst
  cases e : firstsL ps l with
  | nil => exact absurd e (firsts_ne h)
  | cons p r => exact minP_mem r p
abbrev A_least_of (as : List Ag) (d : PyData) : Prop := ∃ (n : Int) (ps : List (Int × Int)) (l : List Int), PairsOk n ps ∧ 0 ≤ n ∧ n ≤ 6 ∧ l.length ≤ 20 ∧ rowIn n l ∧ as = [.n (iL (barsL n ps)), .c (.d (row l))] ∧ d = row (leastL ps l)
theorem ok_least_of (E : Nv K mg) : FnOk P w K mg base CX0 8 E.a_least_of E.d_least_of ["bars", "row"] (spC K E.C_Trade A_least_of) := by
  refine E.F_least_of.ok sc_least_of (fun vs H Q _ h => ?_) (fun cdv A outer s H vs Q _ hr h => ?_)
  · obtain ⟨as, d, ha, ⟨_, _, _, _, _, _, _, _, rfl, _⟩, _⟩ := h
    exact ha.length
  · obtain ⟨as, d, ha, ⟨n, ps, l, hok, h0, h6, hl, hin, rfl, rfl⟩, q⟩ := h
    obtain ⟨v1, v2, rfl, a1, a2⟩ := ha.two
    obtain ⟨pb, a1⟩ := a1.lent
    refine ⟨_, (pss_cons (ps_set (i := 2) sc_least_of.nd rfl (.inl rfl) (pe_lst pa_nil))
      (pss_cons (ps_set (i := 3) sc_least_of.nd rfl (.inl rfl) (pv 1))
      (pss_cons (ps_while PassesOwn.never (pt_truK K (pv 3) (fun _ => rfl)) (pss_cons (ps_asg (pe_callB (call_minK K rfl hr.units12) (by rfl) E.n_min (by decide +kernel) (pa_cons (pe_call (ok_first_letters E) (hr.mono (by first | decide | omega)) (by rfl) E.m_first_letters E.F_first_letters.kp E.b_first_letters .nil pass0 (pa_cons (pv 0) (pa_cons (pv 3) pa_nil))) pa_nil)) (pg_tupK K (n := 2) rfl (pgs_cons (pg_name (i := 4) sc_least_of.nd rfl (.inl rfl)) (pgs_cons (pg_name (i := 5) sc_least_of.nd rfl (.inl rfl)) pgs_nil))))
      (pss_cons (ps_expr (pe_bm PySem.F.plainAttrs_list PySem.F.slot_list_append PySem.F.type_list_append mt_append (pv 2) (pa_cons (pv 4) pa_nil)))
      (pss_one (ps_set (i := 3) sc_least_of.nd rfl (.inl rfl) (pe_call (ok_without E) (hr.mono (by first | decide | omega)) (by rfl) E.m_without E.F_without.kp E.b_without .nil pass0 (pa_cons (pv 3) (pa_cons (pv 5) pa_nil))))))))
      (pss_one (ps_ret (pe_callTy (call_tupleK K) (by rfl) E.n_tuple (by decide +kernel) (pa_cons (pv 2) pa_nil))))))), ?_⟩
    have w : Wd K E.C_Trade [] [] H H _ [.s pb (iL (barsL n ps)), .d (row l), .u, .u, .u, .u] := Wd.start2 (N := N_least_of) a1 a2
    refine q_asgN w (en_lst ed_nil) fun p σ1 H1 hp1 w1 => ?_
    refine q_asgD w1 (ev_var w1 rfl) fun σ2 H2 w2 => ?_
    refine s_seq ⟨fun M σ H' => ∃ (fo r : List Int) (c4 c5 : Ct), Wd K E.C_Trade [] [] H H' σ [.s pb (iL (barsL n ps)), .d (row l), .l p (iL fo), .d (row r), c4, c5] ∧ fo ++ leastL ps r = leastL ps l ∧ fo.length + r.length ≤ 20 ∧ rowIn n r ∧ M = r.length, ⟨_, [], l, _, _, w2, rfl, by simpa using hl, hin, rfl⟩, ?_⟩
    rintro M σ H' ⟨fo, r, c4, c5, w3, he, hlen, hr', rfl⟩
    refine (et_truT (ev_var (i := 3) w3 rfl)) H' (Same.refl H') _ fun H3 e3 => ?_
    have w4 := w3.mono e3
    cases hrr : r with
    | nil =>
      subst hrr
      rw [if_neg (show ¬ (!(iL ([] : List Int)).isEmpty) = true by simp [iL])]
      have e : fo = leastL ps l := by rw [← he]; simp [leastL, leastGo]
      rw [e] at w4
      exact s_retQ w4 q (ev_tupleL (ev_var w4 rfl))
    | cons x t =>
      have hpos : 0 < r.length := by rw [hrr]; simp
      rw [← hrr]
      rw [if_pos (show (!(iL r).isEmpty) = true by rw [hrr]; rfl)]
      have hb := best_mem (ps := ps) hpos
      obtain ⟨pl, hpl, _, hbe⟩ := firsts_mem hb
      have hbe2 : (bestFirst ps r).2 = ((pl : Nat) : Int) := by rw [hbe]
      refine ⟨fun σ H' => ∃ c4 c5, Wd K E.C_Trade [] [] H H' σ [.s pb (iL (barsL n ps)), .d (row l), .l p (iL (fo ++ [(bestFirst ps r).1])), .d (row (r.eraseIdx pl)), c4, c5], ?_, ?_⟩
      · rintro σ' H'' ⟨c4, c5, w5⟩
        have hle : (r.eraseIdx pl).length + 1 = r.length := by rw [List.length_eraseIdx_of_lt hpl]; omega
        refine ⟨(r.eraseIdx pl).length, by omega, _, _, c4, c5, w5, ?_, ?_, fun y hy => hr' y (List.mem_of_mem_eraseIdx hy), rfl⟩
        · rw [← he, List.append_assoc]
          congr 1
          unfold leastL
          rw [show r.length = (r.eraseIdx pl).length + 1 by omega]
          unfold leastGo
          rw [hbe2, Int.toNat_natCast]
          cases h : (r.eraseIdx pl).length <;> rfl
        · rw [List.length_append]
          simp
          omega
      · cases hf : firstsL ps r with
        | nil => exact absurd hf (firsts_ne hpos)
        | cons p0 rest =>
          have hbf : bestFirst ps r = minP p0 rest := by unfold bestFirst; rw [hf]
          have hdep := depth_pairs (p0 :: rest)
          have hal := pairs_alike (p0 :: rest)
          refine q_unpD (i := 4) (j := 5) (d1 := .int (bestFirst ps r).1) (d2 := .int (bestFirst ps r).2) w4 (ev_d (ev_minN (d := Pt.pairD p0) (ds := rest.map Pt.pairD) (en_cast (en_call (ea_consS (ev_var w4 rfl) (ea_cons (ev_var w4 rfl) ea_nil)) ⟨n, ps, r, hok, h0, h6, by omega, hr', rfl, rfl⟩) (by rw [hf]; rfl)) hal (Nat.le_trans hdep (by decide))) (by rw [minD_pairs, hbf]; rfl)) fun σ5 H5 w5 => ?_
          have w5' : Wd K E.C_Trade [] [] H H5 σ5 [.s pb (iL (barsL n ps)), .d (row l), .l p (iL fo), .d (row r), .d (.int (bestFirst ps r).1), .d (.int (bestFirst ps r).2)] := w5
          refine q_app w5' rfl (ev_var w5' rfl) (by rw [iL_len]; omega) fun H6 w6 => ?_
          have w6' : Wd K E.C_Trade [] [] H H6 σ5 [.s pb (iL (barsL n ps)), .d (row l), .l p (iL (fo ++ [(bestFirst ps r).1])), .d (row r), .d (.int (bestFirst ps r).1), .d (.int (bestFirst ps r).2)] := by
            rw [iL_app]
            exact w6
          refine s_asgD w6' (ev_call (ea_cons (ev_var w6' rfl) (ea_cons (ev_d (ev_var w6' rfl) (by rw [hbe2])) ea_nil)) ⟨r, pl, hpl, by omega, rfl, rfl⟩) fun σ7 H7 w7 => ⟨_, _, w7⟩
end
end K1
set_option maxRecDepth 10000000
namespace K1
open PySem PySem.Spec PyProof.Rows L2 Pt
local macro_rules
  | `(tactic| walk_at "sz") => `(tactic| first
    | omega
    | decide
    | (simp; omega)
    | (simp [iL, row, pairsD]; omega))
  | `(tactic| walk_at "ea") => `(tactic| first
    | (with_reducible exact ea_nil)
    | ((with_reducible apply ea_consL); (focus (walk_at "ev")); (focus (walk_at "ea")))
    | ((with_reducible apply ea_consS); (focus (walk_at "ev")); (focus (walk_at "ea")))
    | ((with_reducible apply ea_cons); (focus (walk_at "ev")); (focus (walk_at "ea")))
    | ((with_reducible apply ea_consN); (focus (walk_at "en")); (focus (walk_at "ea"))))
  | `(tactic| walk_at "ed") => `(tactic| first
    | (with_reducible exact ed_nil)
    | ((with_reducible apply ed_cons); (focus (walk_at "ev")); (focus (walk_at "ed"))))
  | `(tactic| walk_at "en") => `(tactic| first
    | ((with_reducible apply en_lst); (focus (walk_at "ed")); (focus (simp)))
    | ((with_reducible apply en_listT); (focus (walk_at "ev")))
    | ((with_reducible apply en_addL); (focus (walk_at "ev")); (focus (walk_at "en")); (focus (walk_at "sz")))
    | ((with_reducible apply en_addN); (focus (walk_at "en")); (focus (walk_at "en")); (focus (walk_at "sz")))
    | ((with_reducible apply en_slL); (focus (walk_at "ev")); (focus (walk_at "eo")); (focus (walk_at "eo"))))
  | `(tactic| walk_at "eo") => `(tactic| first
    | (with_reducible exact eo_none)
    | ((with_reducible apply eo_some); (focus (walk_at "ev"))))
  | `(tactic| walk_at "et") => `(tactic| first
    | (with_reducible exact et_yes)
    | ((with_reducible apply et_test); (focus (walk_at "ev")))
    | ((with_reducible apply et_B); (focus (walk_at "ev")))
    | ((with_reducible apply et_truB); (focus (walk_at "ev")))
    | ((with_reducible apply et_truT); (focus (walk_at "ev")))
    | ((with_reducible apply et_not); (focus (walk_at "et")))
    | ((with_reducible apply et_and); (focus (walk_at "et")); (focus (intro _; walk_at "et")))
    | ((with_reducible apply et_or); (focus (walk_at "et")); (focus (intro _; walk_at "et"))))
  | `(tactic| walk_at "var") => `(tactic| first
    | ((with_reducible apply ev_varD); (focus (assumption)); (focus (rfl)))
    | ((with_reducible apply ev_varL); (focus (assumption)); (focus (rfl)))
    | ((with_reducible apply ev_varS); (focus (assumption)); (focus (rfl)))
    | ((with_reducible apply ev_varT); (focus (assumption)); (focus (rfl)))
    | ((with_reducible apply ev_varH); (focus (assumption)); (focus (rfl)))
    | ((with_reducible apply ev_varZ); (focus (assumption)); (focus (rfl))))
  | `(tactic| walk_at "ev") => `(tactic| first
    | walk_at "var"
    | (with_reducible exact ev_int)
    | (with_reducible exact ev_bl)
    | (with_reducible exact ev_str)
    | (with_reducible exact ev_non)
    | ((with_reducible apply ev_letters); (focus (walk_at "ev")))
    | ((with_reducible apply ev_pairs); (focus (walk_at "ev")))
    | ((with_reducible apply ev_addI); (focus (walk_at "ev")); (focus (walk_at "ev")))
    | ((with_reducible apply ev_addT); (focus (walk_at "ev")); (focus (walk_at "ev")); (focus (walk_at "sz")))
    | ((with_reducible apply ev_i0); (focus (walk_at "ev")); (focus (walk_at "ev")); (focus (first | exact fun _ => .int _ | exact fun _ => .bl _)))
    | ((with_reducible apply ev_iC); (focus (walk_at "ev")); (focus (walk_at "ev")); (focus (first | assumption | walk_at "cond")); (focus (exact fun _ => .int _)))
    | ((with_reducible apply ev_chain); (focus (walk_at "ev")); (focus (walk_at "ev")); (focus (walk_at "ev")))
    | ((with_reducible apply ev_eqI); (focus (walk_at "ev")); (focus (walk_at "ev")))
    | ((with_reducible apply ev_neI); (focus (walk_at "ev")); (focus (walk_at "ev")))
    | ((with_reducible apply ev_eqR); (focus (walk_at "ev")); (focus (walk_at "ev")))
    | ((with_reducible apply ev_neR); (focus (walk_at "ev")); (focus (walk_at "ev")))
    | ((with_reducible apply ev_isN); (focus (walk_at "ev")))
    | ((with_reducible apply ev_notN); (focus (walk_at "ev")))
    | ((with_reducible apply ev_in2); (focus (walk_at "ev")); (focus (walk_at "ev")); (focus (walk_at "ev")))
    | ((with_reducible apply ev_inP); (focus (walk_at "ev")); (focus (walk_at "ev")))
    | ((with_reducible apply ev_tup); (focus (walk_at "ed")); (focus (simp)))
    | ((with_reducible apply ev_lenT); (focus (walk_at "ev")))
    | ((with_reducible apply ev_lenL); (focus (walk_at "ev")))
    | ((with_reducible apply ev_lenS); (focus (walk_at "ev")))
    | ((with_reducible apply ev_lenN); (focus (walk_at "en")))
    | ((with_reducible apply ev_max2); (focus (walk_at "ev")); (focus (walk_at "ev")))
    | ((with_reducible apply ev_min2); (focus (walk_at "ev")); (focus (walk_at "ev")))
    | ((with_reducible apply ev_int1); (focus (walk_at "ev")))
    | ((with_reducible apply ev_tupleL); (focus (walk_at "ev")))
    | ((with_reducible apply ev_tupleN); (focus (walk_at "en")))
    | ((with_reducible apply ev_countT); (focus (walk_at "ev")); (focus (walk_at "ev")))
    | ((with_reducible apply ev_andV); (focus (walk_at "ev")); (focus (intro _; walk_at "ev")))
    | ((with_reducible apply ev_orV); (focus (walk_at "ev")); (focus (intro _; walk_at "ev")))
    | ((with_reducible apply ev_notV); (focus (walk_at "ev"))))
section
variable {P : Program} {w : World} {K : PySem.W.Frag} {mg : Str → Option Value} {base : Heap}
def sortI (l : List Int) : List Int := l.mergeSort fun a b => decide (a ≤ b)
def stepL (ps : List (Int × Int)) (l : List Int) : List Int := sortI ((firstsL ps l).map (·.1))
end
end K1
set_option maxRecDepth 10000000
namespace K1
open PySem PySem.Spec PyProof.Rows L2 Pt
local macro_rules
  | `(tactic| walk_at "sz") => `(tactic| first
    | omega
    | decide
    | (simp; omega)
    | (simp [iL, row, pairsD]; omega))
  | `(tactic| walk_at "ea") => `(tactic| first
    | (with_reducible exact ea_nil)
    | ((with_reducible apply ea_consL); (focus (walk_at "ev")); (focus (walk_at "ea")))
    | ((with_reducible apply ea_consS); (focus (walk_at "ev")); (focus (walk_at "ea")))
    | ((with_reducible apply ea_cons); (focus (walk_at "ev")); (focus (walk_at "ea")))
    | ((with_reducible apply ea_consN); (focus (walk_at "en")); (focus (walk_at "ea"))))
  | `(tactic| walk_at "ed") => `(tactic| first
    | (with_reducible exact ed_nil)
    | ((with_reducible apply ed_cons); (focus (walk_at "ev")); (focus (walk_at "ed"))))
  | `(tactic| walk_at "en") => `(tactic| first
    | ((with_reducible apply en_lst); (focus (walk_at "ed")); (focus (simp)))
    | ((with_reducible apply en_listT); (focus (walk_at "ev")))
    | ((with_reducible apply en_addL); (focus (walk_at "ev")); (focus (walk_at "en")); (focus (walk_at "sz")))
    | ((with_reducible apply en_addN); (focus (walk_at "en")); (focus (walk_at "en")); (focus (walk_at "sz")))
    | ((with_reducible apply en_slL); (focus (walk_at "ev")); (focus (walk_at "eo")); (focus (walk_at "eo"))))
  | `(tactic| walk_at "eo") => `(tactic| first
    | (with_reducible exact eo_none)
    | ((with_reducible apply eo_some); (focus (walk_at "ev"))))
  | `(tactic| walk_at "et") => `(tactic| first
    | (with_reducible exact et_yes)
    | ((with_reducible apply et_test); (focus (walk_at "ev")))
    | ((with_reducible apply et_B); (focus (walk_at "ev")))
    | ((with_reducible apply et_truB); (focus (walk_at "ev")))
    | ((with_reducible apply et_truT); (focus (walk_at "ev")))
    | ((with_reducible apply et_not); (focus (walk_at "et")))
    | ((with_reducible apply et_and); (focus (walk_at "et")); (focus (intro _; walk_at "et")))
    | ((with_reducible apply et_or); (focus (walk_at "et")); (focus (intro _; walk_at "et"))))
  | `(tactic| walk_at "var") => `(tactic| first
    | ((with_reducible apply ev_varD); (focus (assumption)); (focus (rfl)))
    | ((with_reducible apply ev_varL); (focus (assumption)); (focus (rfl)))
    | ((with_reducible apply ev_varS); (focus (assumption)); (focus (rfl)))
    | ((with_reducible apply ev_varT); (focus (assumption)); (focus (rfl)))
    | ((with_reducible apply ev_varH); (focus (assumption)); (focus (rfl)))
    | ((with_reducible apply ev_varZ); (focus (assumption)); (focus (rfl))))
  | `(tactic| walk_at "ev") => `(tactic| first
    | walk_at "var"
    | (with_reducible exact ev_int)
    | (with_reducible exact ev_bl)
    | (with_reducible exact ev_str)
    | (with_reducible exact ev_non)
    | ((with_reducible apply ev_letters); (focus (walk_at "ev")))
    | ((with_reducible apply ev_pairs); (focus (walk_at "ev")))
    | ((with_reducible apply ev_addI); (focus (walk_at "ev")); (focus (walk_at "ev")))
    | ((with_reducible apply ev_addT); (focus (walk_at "ev")); (focus (walk_at "ev")); (focus (walk_at "sz")))
    | ((with_reducible apply ev_i0); (focus (walk_at "ev")); (focus (walk_at "ev")); (focus (first | exact fun _ => .int _ | exact fun _ => .bl _)))
    | ((with_reducible apply ev_iC); (focus (walk_at "ev")); (focus (walk_at "ev")); (focus (first | assumption | walk_at "cond")); (focus (exact fun _ => .int _)))
    | ((with_reducible apply ev_chain); (focus (walk_at "ev")); (focus (walk_at "ev")); (focus (walk_at "ev")))
    | ((with_reducible apply ev_eqI); (focus (walk_at "ev")); (focus (walk_at "ev")))
    | ((with_reducible apply ev_neI); (focus (walk_at "ev")); (focus (walk_at "ev")))
    | ((with_reducible apply ev_eqR); (focus (walk_at "ev")); (focus (walk_at "ev")))
    | ((with_reducible apply ev_neR); (focus (walk_at "ev")); (focus (walk_at "ev")))
    | ((with_reducible apply ev_isN); (focus (walk_at "ev")))
    | ((with_reducible apply ev_notN); (focus (walk_at "ev")))
    | ((with_reducible apply ev_in2); (focus (walk_at "ev")); (focus (walk_at "ev")); (focus (walk_at "ev")))
    | ((with_reducible apply ev_inP); (focus (walk_at "ev")); (focus (walk_at "ev")))
    | ((with_reducible apply ev_tup); (focus (walk_at "ed")); (focus (simp)))
    | ((with_reducible apply ev_lenT); (focus (walk_at "ev")))
    | ((with_reducible apply ev_lenL); (focus (walk_at "ev")))
    | ((with_reducible apply ev_lenS); (focus (walk_at "ev")))
    | ((with_reducible apply ev_lenN); (focus (walk_at "en")))
    | ((with_reducible apply ev_max2); (focus (walk_at "ev")); (focus (walk_at "ev")))
    | ((with_reducible apply ev_min2); (focus (walk_at "ev")); (focus (walk_at "ev")))
    | ((with_reducible apply ev_int1); (focus (walk_at "ev")))
    | ((with_reducible apply ev_tupleL); (focus (walk_at "ev")))
    | ((with_reducible apply ev_tupleN); (focus (walk_at "en")))
    | ((with_reducible apply ev_countT); (focus (walk_at "ev")); (focus (walk_at "ev")))
    | ((with_reducible apply ev_andV); (focus (walk_at "ev")); (focus (intro _; walk_at "ev")))
    | ((with_reducible apply ev_orV); (focus (walk_at "ev")); (focus (intro _; walk_at "ev")))
    | ((with_reducible apply ev_notV); (focus (walk_at "ev"))))
section
variable {P : Program} {w : World} {K : PySem.W.Frag} {mg : Str → Option Value} {base : Heap}
abbrev A_least (as : List Ag) (d : PyData) : Prop := ∃ (n : Int) (ps : List (Int × Int)) (l : List Int), PairsOk n ps ∧ 0 ≤ n ∧ n ≤ 6 ∧ rowOk n l ∧ as = [.c (.t n ps), .c (.d (row l))] ∧ d = row (leastL ps l)
theorem ok_least (E : Nv K mg) : FnOk P w K mg base CX0 16 E.a_least E.d_least ["trade", "row"] (spC K E.C_Trade A_least) := by
  refine E.F_least.ok sc_least (fun vs H Q _ h => ?_) (fun cdv A outer s H vs Q _ hr h => ?_)
  · obtain ⟨as, d, ha, ⟨_, _, _, _, _, _, _, rfl, _⟩, _⟩ := h
    exact ha.length
  · obtain ⟨as, d, ha, ⟨n, ps, l, hok, h0, h6, hrow, rfl, rfl⟩, q⟩ := h
    obtain ⟨v1, v2, rfl, a1, a2⟩ := ha.two
    refine ⟨_, (pss_cons (ps_expr (pe_call (ok_check_trade E) (hr.mono (by first | decide | omega)) (by rfl) E.m_check_trade E.F_check_trade.kp E.b_check_trade .nil pass0 (pa_cons (pv 0) pa_nil)))
      (pss_cons (ps_expr (pe_call (ok_check_row E) (hr.mono (by first | decide | omega)) (by rfl) E.m_check_row E.F_check_row.kp E.b_check_row .nil pass0 (pa_cons (pv 0) (pa_cons (pv 1) pa_nil))))
      (pss_one (ps_ret (pe_call (ok_least_of E) (hr.mono (by first | decide | omega)) (by rfl) E.m_least_of E.F_least_of.kp E.b_least_of .nil pass0 (pa_cons (pe_call (ok_bars_of E) (hr.mono (by first | decide | omega)) (by rfl) E.m_bars_of E.F_bars_of.kp E.b_bars_of .nil pass0 (pa_cons (pv 0) pa_nil)) (pa_cons (pv 1) pa_nil))))))), ?_⟩
    have w : Wd K E.C_Trade [] [] H H _ [.t n ps, .d (row l)] := Wd.start2 (N := N_least) a1 a2
    refine q_drop w (ev_call (by walk_at "ea") ⟨_, _, rfl, rfl⟩) fun H1 w1 => ?_
    refine q_drop w1 (ev_call (by walk_at "ea") ⟨_, _, _, hrow, rfl, rfl⟩) fun H2 w2 => ?_
    exact s_retQ w2 q (ev_call (ea_consN (en_call (ea_cons (ev_var w2 rfl) ea_nil) ⟨n, ps, h0, h6, rfl, rfl⟩) (ea_cons (ev_var w2 rfl) ea_nil)) ⟨n, ps, l, hok, h0, h6, hrow.1, hrow.2, rfl, rfl⟩)
end
end K1
set_option maxRecDepth 10000000
namespace K1
open Pt
def Alike (ps : List (Int × Int)) (l m : List Int) : Prop := ∃ ks, Walks ps l ks m
theorem Alike.refl (ps : List (Int × Int)) (l : List Int) : Alike ps l l := ⟨[], .nil⟩
theorem Alike.trans {ps : List (Int × Int)} {l m r : List Int} (h : Alike ps l m) (g : Alike ps m r) : Alike ps l r := let ⟨_, w⟩ := h; let ⟨_, v⟩ := g; ⟨_, w.app v⟩
theorem swap_back {ps : List (Int × Int)} {l : List Int} {k : Nat} (h : okAt ps l k) : okAt ps (swapAt l k) k ∧ swapAt (swapAt l k) k = l := by
  obtain ⟨u, v, a, b, e1, e2, e3, hm⟩ := okAt_parts h
  rw [e2, e1, ← e3]
  exact okAt_of (by rw [may_comm]; exact hm)
theorem Alike.symm {ps : List (Int × Int)} {l m : List Int} (h : Alike ps l m) : Alike ps m l := by
  obtain ⟨ks, w⟩ := h
  induction w with
  | nil => exact .refl _ _
  | @cons l k ks m hk _ ih =>
    obtain ⟨h1, h2⟩ := swap_back hk
    exact ih.trans ⟨[(k : Int)], .cons h1 (by rw [h2]; exact .nil)⟩
theorem Alike.cons {ps : List (Int × Int)} {l m : List Int} (x : Int) (h : Alike ps l m) : Alike ps (x :: l) (x :: m) := by
  obtain ⟨ks, w⟩ := h
  induction w with
  | nil => exact .refl _ _
  | @cons l k ks m hk _ ih =>
    have h1 : okAt ps (x :: l) (k + 1) := by
      obtain ⟨a, b, ha, hb, hm⟩ := hk
      exact ⟨a, b, by simpa using ha, by simpa using hb, hm⟩
    have h2 : swapAt (x :: l) (k + 1) = x :: swapAt l k := by
      unfold swapAt
      simp
    refine Alike.trans ⟨[((k + 1 : Nat) : Int)], .cons h1 ?_⟩ ih
    rw [h2]
    exact .nil
theorem erase_parts {l : List Int} {p : Nat} (hp : p < l.length) : l = l.take p ++ l[p] :: l.drop (p + 1) ∧ l.eraseIdx p = l.take p ++ l.drop (p + 1) := by
  refine ⟨?_, List.eraseIdx_eq_take_drop_succ ..⟩
  rw [← List.drop_eq_getElem_cons hp, List.take_append_drop]
theorem first_alike {ps : List (Int × Int)} {l : List Int} {p : Nat} (hp : p < l.length) (h : canFirst ps l p = true) : Alike ps l (l.getD p 0 :: l.eraseIdx p) := by
  obtain ⟨e1, e2⟩ := erase_parts hp
  have ge : l.getD p 0 = l[p] := by rw [List.getD_eq_getElem?_getD, List.getElem?_eq_getElem hp]; rfl
  unfold canFirst at h
  rw [ge] at h ⊢
  have w := move (ps := ps) (x := l[p]) (pre := []) (l.take p) (l.drop (p + 1)) (fun y hy => List.all_eq_true.mp h y hy)
  rw [List.nil_append, List.nil_append, ← e1, ← e2] at w
  exact ⟨_, w⟩
theorem leastGo_alike {ps : List (Int × Int)} : ∀ (k : Nat) (l : List Int), l.length = k → Alike ps l (leastGo ps k l)
  | 0, l, h => by
    have e : l = [] := List.length_eq_zero_iff.mp h
    subst e
    exact .refl _ _
  | k + 1, l, h => by
    obtain ⟨p, hp, hc, hb⟩ := firsts_mem (best_mem (ps := ps) (l := l) (by omega))
    unfold leastGo
    rw [hb]
    have hl : (l.eraseIdx p).length = k := by rw [List.length_eraseIdx_of_lt hp]; omega
    exact (first_alike hp hc).trans (.cons _ (by simpa using leastGo_alike k (l.eraseIdx p) hl))
theorem least_alike (ps : List (Int × Int)) (l : List Int) : Alike ps l (leastL ps l) := leastGo_alike l.length l rfl
theorem head_first {n : Int} {ps : List (Int × Int)} (hok : PairsOk n ps) {l m : List Int} {x : Int} (h : Alike ps l (x :: m)) : ∃ p, p < l.length ∧ l.getD p 0 = x ∧ canFirst ps l p = true ∧ Alike ps (l.eraseIdx p) m := by
  obtain ⟨ks, w⟩ := h
  have hx : x ∈ l := w.perm.mem_iff.mpr List.mem_cons_self
  obtain ⟨u, v, rfl, hu, hi, he⟩ := split_at hx
  have hp : u.length < (u ++ x :: v).length := by rw [List.length_append, List.length_cons]; omega
  have hg : (u ++ x :: v)[u.length] = x := by rw [List.getElem_append_right (Nat.le_refl _)]; simp
  have hg' : (u ++ x :: v).getD u.length 0 = x := by rw [List.getD_eq_getElem?_getD, List.getElem?_eq_getElem hp, hg]; rfl
  have hm : ∀ y ∈ u, may ps y x = true := fun y my => by
    cases q : may ps y x with
    | true => rfl
    | false =>
      exfalso
      have e := w.only hok q
      rw [only_app, only_in (.inr rfl), only_in (.inr rfl)] at e
      have hy : y ∈ onlyL u y x := List.mem_filter.mpr ⟨my, by simp⟩
      cases z : onlyL u y x with
      | nil => rw [z] at hy; cases hy
      | cons w' t =>
        rw [z] at e
        have e1 : w' = x := by simpa using (List.cons.inj e).1
        have : w' ∈ u := (List.mem_filter.mp (show w' ∈ onlyL u y x by rw [z]; exact List.mem_cons_self)).1
        exact hu (e1 ▸ this)
  have hc : canFirst ps (u ++ x :: v) u.length = true := by
    unfold canFirst
    rw [hg', List.take_left]
    exact List.all_eq_true.mpr hm
  have hE : (u ++ x :: v).eraseIdx u.length = u ++ v := by
    rw [List.eraseIdx_eq_take_drop_succ, List.take_left]
    congr 1
    rw [show u ++ x :: v = (u ++ [x]) ++ v by simp, show u.length + 1 = (u ++ [x]).length by simp, List.drop_left]
  refine ⟨u.length, hp, hg', hc, ?_⟩
  -- both behind x: the free pairs stand alike
  have hpm : (u ++ v).Perm m := by
    have := w.perm.erase x
    rw [he, List.erase_cons_head] at this
    exact this
  have hf : Free ps (u ++ v) m := fun a b ne q => by
    have e := w.only hok q
    rw [only_app] at e
    rw [only_app]
    by_cases hxab : x = a ∨ x = b
    · rw [only_in hxab, only_in hxab] at e
      cases z : onlyL u a b with
      | nil => rw [z] at e; simpa using e
      | cons w' t =>
        rw [z] at e
        have e1 : w' = x := by simpa using (List.cons.inj e).1
        have : w' ∈ u := (List.mem_filter.mp (show w' ∈ onlyL u a b by rw [z]; exact List.mem_cons_self)).1
        exact absurd (e1 ▸ this) hu
    · rw [only_out hxab, only_out hxab] at e
      exact e
  rw [hE]
  exact ⟨_, lead_walks m (u ++ v) [] hpm hf⟩
theorem first_once {n : Int} {ps : List (Int × Int)} (hok : PairsOk n ps) {l : List Int} {p q : Nat} (hp : p < l.length) (hq : q < l.length) (h1 : canFirst ps l p = true) (h2 : canFirst ps l q = true) (e : l.getD p 0 = l.getD q 0) : p = q := by
  have key : ∀ {p q : Nat}, p < q → q < l.length → canFirst ps l q = true → l.getD p 0 = l.getD q 0 → False := fun {p q} hlt hq h e => by
    have hp : p < l.length := by omega
    have m : l.getD p 0 ∈ l.take q := by
      rw [List.getD_eq_getElem?_getD, List.getElem?_eq_getElem hp]
      exact List.mem_take_iff_getElem.mpr ⟨p, by omega, rfl⟩
    have z := List.all_eq_true.mp h _ m
    rw [e] at z
    exact may_ne hok z rfl
  rcases Nat.lt_trichotomy p q with z | z | z
  · exact (key z hq h2 e).elim
  · exact z
  · exact (key z hp h1 e.symm).elim
theorem best_le {ps : List (Int × Int)} {l : List Int} {q : Int × Int} (h : q ∈ firstsL ps l) : ltB q (bestFirst ps l) = false := by
  unfold bestFirst
  cases e : firstsL ps l with
  | nil => rw [e] at h; cases h
  | cons p r => rw [e] at h; exact minP_le r p q h
theorem leastGo_le {n : Int} {ps : List (Int × Int)} (hok : PairsOk n ps) : ∀ (k : Nat) (l m : List Int), l.length = k → Alike ps l m → leastGo ps k l ≤ m
  | 0, l, m, h, _ => by
    show leastGo ps 0 l ≤ m
    unfold leastGo
    exact List.nil_le m
  | k + 1, l, m, h, ha => by
    have hlm : l.length = m.length := let ⟨_, w⟩ := ha; w.perm.length_eq
    cases m with
    | nil =>
      rw [h] at hlm
      cases hlm
    | cons x m =>
      obtain ⟨p, hp, hx, hc, hr⟩ := head_first hok ha
      obtain ⟨b, hb, hbc, hbe⟩ := firsts_mem (best_mem (ps := ps) (l := l) (by omega))
      have m1 : (l.getD p 0, (p : Int)) ∈ firstsL ps l := List.mem_map.mpr ⟨p, List.mem_filter.mpr ⟨List.mem_range.mpr hp, hc⟩, rfl⟩
      have le := best_le m1
      unfold leastGo
      rw [hbe] at le ⊢
      unfold ltB at le
      simp only [decide_eq_false_iff_not] at le
      rw [List.cons_le_cons_iff]
      by_cases e : l.getD b 0 = x
      · refine .inr ⟨e, ?_⟩
        have ep := first_once hok hb hp hbc hc (e.trans hx.symm)
        subst ep
        have hl : (l.eraseIdx b).length = k := by rw [List.length_eraseIdx_of_lt hb]; omega
        simpa using leastGo_le hok k (l.eraseIdx b) m hl hr
      · refine .inl ?_
        show l.getD b 0 < x
        omega
theorem least_le {n : Int} {ps : List (Int × Int)} (hok : PairsOk n ps) {l m : List Int} (h : Alike ps l m) : leastL ps l ≤ m := leastGo_le hok l.length l m rfl h
theorem least_same {n : Int} {ps : List (Int × Int)} (hok : PairsOk n ps) {l m : List Int} (h : Alike ps l m) : leastL ps l = leastL ps m :=
  List.le_antisymm (least_le hok (h.trans (least_alike ps m))) (least_le hok (h.symm.trans (least_alike ps l)))
end K1
set_option maxRecDepth 10000000
namespace K1
open Pt
theorem alike_iff {n : Int} {ps : List (Int × Int)} (hok : PairsOk n ps) {l m : List Int} : Alike ps l m ↔ l.Perm m ∧ Free ps l m :=
  ⟨fun ⟨_, w⟩ => ⟨w.perm, fun a b _ q => w.only hok q⟩, fun ⟨hp, hf⟩ => ⟨_, lead_walks m l [] hp hf⟩⟩
theorem firsts_letters (ps : List (Int × Int)) (l : List Int) : (firstsL ps l).map (·.1) = ((List.range l.length).filter (canFirst ps l)).map fun p => l.getD p 0 := by
  unfold firstsL
  rw [List.map_map]
  rfl
theorem Alike.app {ps : List (Int × Int)} {l m : List Int} (h : Alike ps l m) : ∀ u : List Int, Alike ps (u ++ l) (u ++ m)
  | [] => h
  | x :: u => (h.app u).cons x
theorem app_cancel {n : Int} {ps : List (Int × Int)} (hok : PairsOk n ps) {u l m : List Int} (h : Alike ps (u ++ l) (u ++ m)) : Alike ps l m := by
  rw [alike_iff hok] at h ⊢
  refine ⟨(List.perm_append_left_iff u).mp h.1, fun a b ne q => ?_⟩
  have e := h.2 a b ne q
  rw [only_app, only_app] at e
  exact List.append_cancel_left e
theorem first_letter_iff {n : Int} {ps : List (Int × Int)} (hok : PairsOk n ps) {l : List Int} {x : Int} : x ∈ (firstsL ps l).map (·.1) ↔ ∃ m, Alike ps l (x :: m) := by
  constructor
  · intro h
    obtain ⟨q, hq, rfl⟩ := List.mem_map.mp h
    obtain ⟨p, hp, hc, rfl⟩ := firsts_mem hq
    exact ⟨_, first_alike hp hc⟩
  · rintro ⟨m, h⟩
    obtain ⟨p, hp, hx, hc, _⟩ := head_first hok h
    exact List.mem_map.mpr ⟨(l.getD p 0, (p : Int)), List.mem_map.mpr ⟨p, List.mem_filter.mpr ⟨List.mem_range.mpr hp, hc⟩, rfl⟩, hx⟩
theorem firsts_nodup {n : Int} {ps : List (Int × Int)} (hok : PairsOk n ps) (l : List Int) : ((firstsL ps l).map (·.1)).Nodup := by
  rw [firsts_letters]
  unfold List.Nodup
  rw [List.pairwise_map]
  refine List.Pairwise.imp_of_mem (R := (· < ·)) ?_ ((List.pairwise_lt_range).sublist (List.filter_sublist ..))
  intro p q hp hq hlt e
  obtain ⟨p1, p2⟩ := List.mem_filter.mp hp
  obtain ⟨q1, q2⟩ := List.mem_filter.mp hq
  have := first_once hok (List.mem_range.mp p1) (List.mem_range.mp q1) p2 q2 e
  omega
theorem sortI_sorted (l : List Int) : (sortI l).Pairwise (· ≤ ·) := by
  have h := List.pairwise_mergeSort (le := fun a b : Int => decide (a ≤ b)) (fun a b c h1 h2 => by simp at *; omega) (fun a b => by simp; omega) l
  exact h.imp fun h => of_decide_eq_true h
theorem stepL_strict {n : Int} {ps : List (Int × Int)} (hok : PairsOk n ps) (l : List Int) : (stepL ps l).Pairwise (· < ·) := by
  have h1 := sortI_sorted ((firstsL ps l).map (·.1))
  have h2 : (stepL ps l).Nodup := (List.mergeSort_perm _ _).symm.nodup (firsts_nodup hok l)
  exact (h1.and h2).imp fun ⟨a, b⟩ => by omega
theorem mem_step (ps : List (Int × Int)) (l : List Int) (x : Int) : x ∈ stepL ps l ↔ x ∈ (firstsL ps l).map (·.1) := (List.mergeSort_perm _ _).mem_iff
end K1
set_option maxRecDepth 10000000
namespace K1
open Pt
end K1
set_option maxRecDepth 10000000
namespace K1
open Pt
theorem step_ne {ps : List (Int × Int)} {l : List Int} (h : l ≠ []) : stepL ps l ≠ [] := fun e => by
  have z : (stepL ps l).length = ((firstsL ps l).map (·.1)).length := List.length_mergeSort _
  rw [e, List.length_map] at z
  exact firsts_ne (List.length_pos_iff.mpr h) (List.length_eq_zero_iff.mp z.symm)
theorem step_free {n : Int} {ps : List (Int × Int)} (hok : PairsOk n ps) {l : List Int} {a b : Int} (ha : a ∈ stepL ps l) (hb : b ∈ stepL ps l) (ne : a ≠ b) : may ps a b = true := by
  have key : ∀ {p q : Nat}, p < q → q < l.length → canFirst ps l q = true → may ps (l.getD p 0) (l.getD q 0) = true := fun {p q} hlt hq h => by
    have hp : p < l.length := by omega
    have m : l.getD p 0 ∈ l.take q := by
      rw [List.getD_eq_getElem?_getD, List.getElem?_eq_getElem hp]
      exact List.mem_take_iff_getElem.mpr ⟨p, by omega, rfl⟩
    exact List.all_eq_true.mp h _ m
  rw [mem_step] at ha hb
  obtain ⟨qa, ma, rfl⟩ := List.mem_map.mp ha
  obtain ⟨qb, mb, rfl⟩ := List.mem_map.mp hb
  obtain ⟨p, hp, cp, rfl⟩ := firsts_mem ma
  obtain ⟨q, hq, cq, rfl⟩ := firsts_mem mb
  rcases Nat.lt_trichotomy p q with z | z | z
  · exact key z hq cq
  · subst z; exact absurd rfl ne
  · rw [may_comm]; exact key z hp cp
def subs : List Int → List (List Int)
  | [] => [[]]
  | x :: t => (subs t).map (x :: ·) ++ subs t
theorem mem_subs {l m : List Int} (h : l.Sublist m) : l ∈ subs m := by
  induction h with
  | slnil => exact List.mem_singleton.mpr rfl
  | cons a _ ih => exact List.mem_append.mpr (.inr ih)
  | cons_cons a _ ih => exact List.mem_append.mpr (.inl (List.mem_map.mpr ⟨_, ih, rfl⟩))
end K1
set_option maxRecDepth 10000000
namespace K1
open Pt
def isFirst (ps : List (Int × Int)) (l : List Int) (x : Int) : Prop := ∃ m, Alike ps l (x :: m)
theorem isFirst_iff {n : Int} {ps : List (Int × Int)} (hok : PairsOk n ps) {l : List Int} {x : Int} : x ∈ (firstsL ps l).map (·.1) ↔ isFirst ps l x := first_letter_iff hok
def leftL (ps : List (Int × Int)) : List Int → List Int → Option (List Int)
  | [], r => some r
  | x :: one, r => match (firstsL ps r).find? (fun q => decide (q.1 = x)) with
    | none => none
    | some q => leftL ps one (r.eraseIdx q.2.toNat)
theorem left_cons (ps : List (Int × Int)) (x : Int) (one r : List Int) : leftL ps (x :: one) r = match (firstsL ps r).find? (fun q => decide (q.1 = x)) with
    | none => none
    | some q => leftL ps one (r.eraseIdx q.2.toNat) := rfl
theorem find_first {ps : List (Int × Int)} {r : List Int} {x : Int} {q : Int × Int} (h : (firstsL ps r).find? (fun q => decide (q.1 = x)) = some q) : ∃ p : Nat, p < r.length ∧ canFirst ps r p = true ∧ r.getD p 0 = x ∧ q = (x, (p : Int)) := by
  have h1 : q.1 = x := by simpa using List.find?_some h
  obtain ⟨p, hp, hc, e⟩ := firsts_mem (List.mem_of_find?_eq_some h)
  subst e
  exact ⟨p, hp, hc, h1, by rw [← h1]⟩
theorem find_none {n : Int} {ps : List (Int × Int)} (hok : PairsOk n ps) {r : List Int} {x : Int} (h : (firstsL ps r).find? (fun q => decide (q.1 = x)) = none) : ¬ isFirst ps r x := fun z => by
  rw [← isFirst_iff hok] at z
  obtain ⟨q, hq, e⟩ := List.mem_map.mp z
  have := List.find?_eq_none.mp h q hq
  simp [e] at this
theorem left_some {ps : List (Int × Int)} : ∀ {one r s : List Int}, leftL ps one r = some s → Alike ps r (one ++ s) ∧ s.Sublist r
  | [], r, s, h => by
    obtain rfl := Option.some.inj h
    exact ⟨.refl _ _, List.Sublist.refl _⟩
  | x :: one, r, s, h => by
    rw [left_cons] at h
    cases e : (firstsL ps r).find? (fun q => decide (q.1 = x)) with
    | none => rw [e] at h; cases h
    | some q =>
      rw [e] at h
      obtain ⟨p, hp, hc, hx, rfl⟩ := find_first e
      simp only [Int.toNat_natCast] at h
      obtain ⟨h1, h2⟩ := left_some h
      have a := first_alike hp hc
      rw [hx] at a
      exact ⟨a.trans (h1.cons x), h2.trans (List.eraseIdx_sublist r p)⟩
theorem Alike.appR {n : Int} {ps : List (Int × Int)} (hok : PairsOk n ps) {l m : List Int} (h : Alike ps l m) (u : List Int) : Alike ps (l ++ u) (m ++ u) := by
  rw [alike_iff hok] at h ⊢
  refine ⟨h.1.append_right u, fun a b ne q => ?_⟩
  rw [only_app, only_app, h.2 a b ne q]
theorem canFirst_app {ps : List (Int × Int)} {u v : List Int} {p : Nat} (hp : p < u.length) : canFirst ps (u ++ v) p = canFirst ps u p := by
  unfold canFirst
  rw [List.take_append_of_le_length (Nat.le_of_lt hp), List.getD_eq_getElem?_getD, List.getD_eq_getElem?_getD, List.getElem?_append_left hp]
theorem first_app {n : Int} {ps : List (Int × Int)} (hok : PairsOk n ps) {u v : List Int} {x : Int} {m : List Int} (h : Alike ps (u ++ v) (x :: m)) :
    isFirst ps u x ∨ ((∀ y ∈ u, may ps y x = true) ∧ ∃ v', Alike ps v (x :: v') ∧ Alike ps (u ++ v') m) := by
  obtain ⟨p, hp, hx, hc, hr⟩ := head_first hok h
  by_cases hpu : p < u.length
  · left
    have e : u.getD p 0 = x := by rw [← hx, List.getD_eq_getElem?_getD, List.getD_eq_getElem?_getD, List.getElem?_append_left hpu]
    have a := first_alike (ps := ps) hpu (by rw [← canFirst_app (v := v) hpu]; exact hc)
    rw [e] at a
    exact ⟨_, a⟩
  · right
    have hl : u.length ≤ p := by omega
    rw [List.length_append] at hp
    have ex : v.getD (p - u.length) 0 = x := by rw [← hx, List.getD_eq_getElem?_getD, List.getD_eq_getElem?_getD, List.getElem?_append_right hl]
    have hall := List.all_eq_true.mp (show ((u ++ v).take p).all (fun y => may ps y ((u ++ v).getD p 0)) = true from hc)
    rw [hx, List.take_append, List.take_of_length_le hl] at hall
    have hcv : canFirst ps v (p - u.length) = true := by
      unfold canFirst
      rw [ex]
      exact List.all_eq_true.mpr fun y hy => hall y (List.mem_append.mpr (.inr hy))
    have a := first_alike (ps := ps) (show p - u.length < v.length by omega) hcv
    rw [ex] at a
    refine ⟨fun y hy => hall y (List.mem_append.mpr (.inl hy)), _, a, ?_⟩
    rw [List.eraseIdx_append_of_length_le hl] at hr
    exact hr
theorem first_erase {n : Int} {ps : List (Int × Int)} (hok : PairsOk n ps) {a a' : List Int} {x y : Int} (h : Alike ps a (x :: a')) (hy : isFirst ps a y) (ne : y ≠ x) : isFirst ps a' y := by
  obtain ⟨m, hm⟩ := hy
  rcases first_app hok (u := [x]) (v := a') (h.symm.trans hm) with ⟨t, ht⟩ | ⟨_, v, hv, _⟩
  · exfalso
    obtain ⟨_, w⟩ := ht
    have := w.perm.mem_iff.mpr (List.mem_cons_self (a := y) (l := t))
    exact ne (List.mem_singleton.mp this)
  · exact ⟨v, hv⟩
theorem left_firsts {n : Int} {ps : List (Int × Int)} (hok : PairsOk n ps) : ∀ {F a : List Int}, F.Nodup → (∀ x ∈ F, isFirst ps a x) → ∃ s, leftL ps F a = some s
  | [], a, _, _ => ⟨a, rfl⟩
  | x :: F, a, hn, h => by
    have hn' := List.nodup_cons.mp hn
    rw [left_cons]
    cases e : (firstsL ps a).find? (fun q => decide (q.1 = x)) with
    | none => exact absurd (h x List.mem_cons_self) (find_none hok e)
    | some q =>
      obtain ⟨p, hp, hc, hx, rfl⟩ := find_first e
      simp only [Int.toNat_natCast]
      have al := first_alike hp hc
      rw [hx] at al
      exact left_firsts hok hn'.2 fun y hy => first_erase hok al (h y (List.mem_cons_of_mem _ hy)) (fun z => hn'.1 (z ▸ hy))
theorem alike_len {ps : List (Int × Int)} {l m : List Int} (h : Alike ps l m) : l.length = m.length := let ⟨_, w⟩ := h; w.perm.length_eq
end K1
set_option maxRecDepth 10000000
namespace K1
open Pt
end K1
set_option maxRecDepth 10000000
namespace K1
open PySem PySem.Spec PyProof.Rows L2 Pt
local macro_rules
  | `(tactic| walk_at "sz") => `(tactic| first
    | omega
    | decide
    | (simp; omega)
    | (simp [iL, row, pairsD]; omega))
  | `(tactic| walk_at "ea") => `(tactic| first
    | (with_reducible exact ea_nil)
    | ((with_reducible apply ea_consL); (focus (walk_at "ev")); (focus (walk_at "ea")))
    | ((with_reducible apply ea_consS); (focus (walk_at "ev")); (focus (walk_at "ea")))
    | ((with_reducible apply ea_cons); (focus (walk_at "ev")); (focus (walk_at "ea")))
    | ((with_reducible apply ea_consN); (focus (walk_at "en")); (focus (walk_at "ea"))))
  | `(tactic| walk_at "ed") => `(tactic| first
    | (with_reducible exact ed_nil)
    | ((with_reducible apply ed_cons); (focus (walk_at "ev")); (focus (walk_at "ed"))))
  | `(tactic| walk_at "en") => `(tactic| first
    | ((with_reducible apply en_lst); (focus (walk_at "ed")); (focus (simp)))
    | ((with_reducible apply en_listT); (focus (walk_at "ev")))
    | ((with_reducible apply en_addL); (focus (walk_at "ev")); (focus (walk_at "en")); (focus (walk_at "sz")))
    | ((with_reducible apply en_addN); (focus (walk_at "en")); (focus (walk_at "en")); (focus (walk_at "sz")))
    | ((with_reducible apply en_slL); (focus (walk_at "ev")); (focus (walk_at "eo")); (focus (walk_at "eo"))))
  | `(tactic| walk_at "eo") => `(tactic| first
    | (with_reducible exact eo_none)
    | ((with_reducible apply eo_some); (focus (walk_at "ev"))))
  | `(tactic| walk_at "et") => `(tactic| first
    | (with_reducible exact et_yes)
    | ((with_reducible apply et_test); (focus (walk_at "ev")))
    | ((with_reducible apply et_B); (focus (walk_at "ev")))
    | ((with_reducible apply et_truB); (focus (walk_at "ev")))
    | ((with_reducible apply et_truT); (focus (walk_at "ev")))
    | ((with_reducible apply et_not); (focus (walk_at "et")))
    | ((with_reducible apply et_and); (focus (walk_at "et")); (focus (intro _; walk_at "et")))
    | ((with_reducible apply et_or); (focus (walk_at "et")); (focus (intro _; walk_at "et"))))
  | `(tactic| walk_at "var") => `(tactic| first
    | ((with_reducible apply ev_varD); (focus (assumption)); (focus (rfl)))
    | ((with_reducible apply ev_varL); (focus (assumption)); (focus (rfl)))
    | ((with_reducible apply ev_varS); (focus (assumption)); (focus (rfl)))
    | ((with_reducible apply ev_varT); (focus (assumption)); (focus (rfl)))
    | ((with_reducible apply ev_varH); (focus (assumption)); (focus (rfl)))
    | ((with_reducible apply ev_varZ); (focus (assumption)); (focus (rfl))))
  | `(tactic| walk_at "ev") => `(tactic| first
    | walk_at "var"
    | (with_reducible exact ev_int)
    | (with_reducible exact ev_bl)
    | (with_reducible exact ev_str)
    | (with_reducible exact ev_non)
    | ((with_reducible apply ev_letters); (focus (walk_at "ev")))
    | ((with_reducible apply ev_pairs); (focus (walk_at "ev")))
    | ((with_reducible apply ev_addI); (focus (walk_at "ev")); (focus (walk_at "ev")))
    | ((with_reducible apply ev_addT); (focus (walk_at "ev")); (focus (walk_at "ev")); (focus (walk_at "sz")))
    | ((with_reducible apply ev_i0); (focus (walk_at "ev")); (focus (walk_at "ev")); (focus (first | exact fun _ => .int _ | exact fun _ => .bl _)))
    | ((with_reducible apply ev_iC); (focus (walk_at "ev")); (focus (walk_at "ev")); (focus (first | assumption | walk_at "cond")); (focus (exact fun _ => .int _)))
    | ((with_reducible apply ev_chain); (focus (walk_at "ev")); (focus (walk_at "ev")); (focus (walk_at "ev")))
    | ((with_reducible apply ev_eqI); (focus (walk_at "ev")); (focus (walk_at "ev")))
    | ((with_reducible apply ev_neI); (focus (walk_at "ev")); (focus (walk_at "ev")))
    | ((with_reducible apply ev_eqR); (focus (walk_at "ev")); (focus (walk_at "ev")))
    | ((with_reducible apply ev_neR); (focus (walk_at "ev")); (focus (walk_at "ev")))
    | ((with_reducible apply ev_isN); (focus (walk_at "ev")))
    | ((with_reducible apply ev_notN); (focus (walk_at "ev")))
    | ((with_reducible apply ev_in2); (focus (walk_at "ev")); (focus (walk_at "ev")); (focus (walk_at "ev")))
    | ((with_reducible apply ev_inP); (focus (walk_at "ev")); (focus (walk_at "ev")))
    | ((with_reducible apply ev_tup); (focus (walk_at "ed")); (focus (simp)))
    | ((with_reducible apply ev_lenT); (focus (walk_at "ev")))
    | ((with_reducible apply ev_lenL); (focus (walk_at "ev")))
    | ((with_reducible apply ev_lenS); (focus (walk_at "ev")))
    | ((with_reducible apply ev_lenN); (focus (walk_at "en")))
    | ((with_reducible apply ev_max2); (focus (walk_at "ev")); (focus (walk_at "ev")))
    | ((with_reducible apply ev_min2); (focus (walk_at "ev")); (focus (walk_at "ev")))
    | ((with_reducible apply ev_int1); (focus (walk_at "ev")))
    | ((with_reducible apply ev_tupleL); (focus (walk_at "ev")))
    | ((with_reducible apply ev_tupleN); (focus (walk_at "en")))
    | ((with_reducible apply ev_countT); (focus (walk_at "ev")); (focus (walk_at "ev")))
    | ((with_reducible apply ev_andV); (focus (walk_at "ev")); (focus (intro _; walk_at "ev")))
    | ((with_reducible apply ev_orV); (focus (walk_at "ev")); (focus (intro _; walk_at "ev")))
    | ((with_reducible apply ev_notV); (focus (walk_at "ev"))))
section
variable {P : Program} {w : World} {K : PySem.W.Frag} {mg : Str → Option Value} {base : Heap}
end
end K1
set_option maxRecDepth 10000000
namespace K1
open PySem PySem.Spec PyProof.Rows L2 Pt
theorem step_mem_place {ps : List (Int × Int)} {l : List Int} {x : Int} (h : x ∈ stepL ps l) : ∃ p, p < l.length ∧ canFirst ps l p = true ∧ l.getD p 0 = x := by
  obtain ⟨q, hq, rfl⟩ := List.mem_map.mp ((mem_step ps l x).mp h)
  obtain ⟨p, hp, hc, e⟩ := firsts_mem hq
  exact ⟨p, hp, hc, by rw [e]⟩
theorem step_mem {ps : List (Int × Int)} {l : List Int} {x : Int} (h : x ∈ stepL ps l) : x ∈ l := by
  obtain ⟨p, hp, _, rfl⟩ := step_mem_place h
  rw [List.getD_eq_getElem?_getD, List.getElem?_eq_getElem hp]
  exact List.getElem_mem hp
end K1
set_option maxRecDepth 10000000
namespace K1
open PySem PySem.Spec PyProof.Rows L2 Pt
local macro_rules
  | `(tactic| walk_at "sz") => `(tactic| first
    | omega
    | decide
    | (simp; omega)
    | (simp [iL, row, pairsD]; omega))
  | `(tactic| walk_at "ea") => `(tactic| first
    | (with_reducible exact ea_nil)
    | ((with_reducible apply ea_consL); (focus (walk_at "ev")); (focus (walk_at "ea")))
    | ((with_reducible apply ea_consS); (focus (walk_at "ev")); (focus (walk_at "ea")))
    | ((with_reducible apply ea_cons); (focus (walk_at "ev")); (focus (walk_at "ea")))
    | ((with_reducible apply ea_consN); (focus (walk_at "en")); (focus (walk_at "ea"))))
  | `(tactic| walk_at "ed") => `(tactic| first
    | (with_reducible exact ed_nil)
    | ((with_reducible apply ed_cons); (focus (walk_at "ev")); (focus (walk_at "ed"))))
  | `(tactic| walk_at "en") => `(tactic| first
    | ((with_reducible apply en_lst); (focus (walk_at "ed")); (focus (simp)))
    | ((with_reducible apply en_listT); (focus (walk_at "ev")))
    | ((with_reducible apply en_addL); (focus (walk_at "ev")); (focus (walk_at "en")); (focus (walk_at "sz")))
    | ((with_reducible apply en_addN); (focus (walk_at "en")); (focus (walk_at "en")); (focus (walk_at "sz")))
    | ((with_reducible apply en_slL); (focus (walk_at "ev")); (focus (walk_at "eo")); (focus (walk_at "eo"))))
  | `(tactic| walk_at "eo") => `(tactic| first
    | (with_reducible exact eo_none)
    | ((with_reducible apply eo_some); (focus (walk_at "ev"))))
  | `(tactic| walk_at "et") => `(tactic| first
    | (with_reducible exact et_yes)
    | ((with_reducible apply et_test); (focus (walk_at "ev")))
    | ((with_reducible apply et_B); (focus (walk_at "ev")))
    | ((with_reducible apply et_truB); (focus (walk_at "ev")))
    | ((with_reducible apply et_truT); (focus (walk_at "ev")))
    | ((with_reducible apply et_not); (focus (walk_at "et")))
    | ((with_reducible apply et_and); (focus (walk_at "et")); (focus (intro _; walk_at "et")))
    | ((with_reducible apply et_or); (focus (walk_at "et")); (focus (intro _; walk_at "et"))))
  | `(tactic| walk_at "var") => `(tactic| first
    | ((with_reducible apply ev_varD); (focus (assumption)); (focus (rfl)))
    | ((with_reducible apply ev_varL); (focus (assumption)); (focus (rfl)))
    | ((with_reducible apply ev_varS); (focus (assumption)); (focus (rfl)))
    | ((with_reducible apply ev_varT); (focus (assumption)); (focus (rfl)))
    | ((with_reducible apply ev_varH); (focus (assumption)); (focus (rfl)))
    | ((with_reducible apply ev_varZ); (focus (assumption)); (focus (rfl))))
  | `(tactic| walk_at "ev") => `(tactic| first
    | walk_at "var"
    | (with_reducible exact ev_int)
    | (with_reducible exact ev_bl)
    | (with_reducible exact ev_str)
    | (with_reducible exact ev_non)
    | ((with_reducible apply ev_letters); (focus (walk_at "ev")))
    | ((with_reducible apply ev_pairs); (focus (walk_at "ev")))
    | ((with_reducible apply ev_addI); (focus (walk_at "ev")); (focus (walk_at "ev")))
    | ((with_reducible apply ev_addT); (focus (walk_at "ev")); (focus (walk_at "ev")); (focus (walk_at "sz")))
    | ((with_reducible apply ev_i0); (focus (walk_at "ev")); (focus (walk_at "ev")); (focus (first | exact fun _ => .int _ | exact fun _ => .bl _)))
    | ((with_reducible apply ev_iC); (focus (walk_at "ev")); (focus (walk_at "ev")); (focus (first | assumption | walk_at "cond")); (focus (exact fun _ => .int _)))
    | ((with_reducible apply ev_chain); (focus (walk_at "ev")); (focus (walk_at "ev")); (focus (walk_at "ev")))
    | ((with_reducible apply ev_eqI); (focus (walk_at "ev")); (focus (walk_at "ev")))
    | ((with_reducible apply ev_neI); (focus (walk_at "ev")); (focus (walk_at "ev")))
    | ((with_reducible apply ev_eqR); (focus (walk_at "ev")); (focus (walk_at "ev")))
    | ((with_reducible apply ev_neR); (focus (walk_at "ev")); (focus (walk_at "ev")))
    | ((with_reducible apply ev_isN); (focus (walk_at "ev")))
    | ((with_reducible apply ev_notN); (focus (walk_at "ev")))
    | ((with_reducible apply ev_in2); (focus (walk_at "ev")); (focus (walk_at "ev")); (focus (walk_at "ev")))
    | ((with_reducible apply ev_inP); (focus (walk_at "ev")); (focus (walk_at "ev")))
    | ((with_reducible apply ev_tup); (focus (walk_at "ed")); (focus (simp)))
    | ((with_reducible apply ev_lenT); (focus (walk_at "ev")))
    | ((with_reducible apply ev_lenL); (focus (walk_at "ev")))
    | ((with_reducible apply ev_lenS); (focus (walk_at "ev")))
    | ((with_reducible apply ev_lenN); (focus (walk_at "en")))
    | ((with_reducible apply ev_max2); (focus (walk_at "ev")); (focus (walk_at "ev")))
    | ((with_reducible apply ev_min2); (focus (walk_at "ev")); (focus (walk_at "ev")))
    | ((with_reducible apply ev_int1); (focus (walk_at "ev")))
    | ((with_reducible apply ev_tupleL); (focus (walk_at "ev")))
    | ((with_reducible apply ev_tupleN); (focus (walk_at "en")))
    | ((with_reducible apply ev_countT); (focus (walk_at "ev")); (focus (walk_at "ev")))
    | ((with_reducible apply ev_andV); (focus (walk_at "ev")); (focus (intro _; walk_at "ev")))
    | ((with_reducible apply ev_orV); (focus (walk_at "ev")); (focus (intro _; walk_at "ev")))
    | ((with_reducible apply ev_notV); (focus (walk_at "ev"))))
section
variable {P : Program} {w : World} {K : PySem.W.Frag} {mg : Str → Option Value} {base : Heap}
end
end K1
set_option maxRecDepth 10000000
namespace K1
open PySem PySem.Spec PyProof.Rows L2 Pt
local macro_rules
  | `(tactic| walk_at "sz") => `(tactic| first
    | omega
    | decide
    | (simp; omega)
    | (simp [iL, row, pairsD]; omega))
  | `(tactic| walk_at "ea") => `(tactic| first
    | (with_reducible exact ea_nil)
    | ((with_reducible apply ea_consL); (focus (walk_at "ev")); (focus (walk_at "ea")))
    | ((with_reducible apply ea_consS); (focus (walk_at "ev")); (focus (walk_at "ea")))
    | ((with_reducible apply ea_cons); (focus (walk_at "ev")); (focus (walk_at "ea")))
    | ((with_reducible apply ea_consN); (focus (walk_at "en")); (focus (walk_at "ea"))))
  | `(tactic| walk_at "ed") => `(tactic| first
    | (with_reducible exact ed_nil)
    | ((with_reducible apply ed_cons); (focus (walk_at "ev")); (focus (walk_at "ed"))))
  | `(tactic| walk_at "en") => `(tactic| first
    | ((with_reducible apply en_lst); (focus (walk_at "ed")); (focus (simp)))
    | ((with_reducible apply en_listT); (focus (walk_at "ev")))
    | ((with_reducible apply en_addL); (focus (walk_at "ev")); (focus (walk_at "en")); (focus (walk_at "sz")))
    | ((with_reducible apply en_addN); (focus (walk_at "en")); (focus (walk_at "en")); (focus (walk_at "sz")))
    | ((with_reducible apply en_slL); (focus (walk_at "ev")); (focus (walk_at "eo")); (focus (walk_at "eo"))))
  | `(tactic| walk_at "eo") => `(tactic| first
    | (with_reducible exact eo_none)
    | ((with_reducible apply eo_some); (focus (walk_at "ev"))))
  | `(tactic| walk_at "et") => `(tactic| first
    | (with_reducible exact et_yes)
    | ((with_reducible apply et_test); (focus (walk_at "ev")))
    | ((with_reducible apply et_B); (focus (walk_at "ev")))
    | ((with_reducible apply et_truB); (focus (walk_at "ev")))
    | ((with_reducible apply et_truT); (focus (walk_at "ev")))
    | ((with_reducible apply et_not); (focus (walk_at "et")))
    | ((with_reducible apply et_and); (focus (walk_at "et")); (focus (intro _; walk_at "et")))
    | ((with_reducible apply et_or); (focus (walk_at "et")); (focus (intro _; walk_at "et"))))
  | `(tactic| walk_at "var") => `(tactic| first
    | ((with_reducible apply ev_varD); (focus (assumption)); (focus (rfl)))
    | ((with_reducible apply ev_varL); (focus (assumption)); (focus (rfl)))
    | ((with_reducible apply ev_varS); (focus (assumption)); (focus (rfl)))
    | ((with_reducible apply ev_varT); (focus (assumption)); (focus (rfl)))
    | ((with_reducible apply ev_varH); (focus (assumption)); (focus (rfl)))
    | ((with_reducible apply ev_varZ); (focus (assumption)); (focus (rfl))))
  | `(tactic| walk_at "ev") => `(tactic| first
    | walk_at "var"
    | (with_reducible exact ev_int)
    | (with_reducible exact ev_bl)
    | (with_reducible exact ev_str)
    | (with_reducible exact ev_non)
    | ((with_reducible apply ev_letters); (focus (walk_at "ev")))
    | ((with_reducible apply ev_pairs); (focus (walk_at "ev")))
    | ((with_reducible apply ev_addI); (focus (walk_at "ev")); (focus (walk_at "ev")))
    | ((with_reducible apply ev_addT); (focus (walk_at "ev")); (focus (walk_at "ev")); (focus (walk_at "sz")))
    | ((with_reducible apply ev_i0); (focus (walk_at "ev")); (focus (walk_at "ev")); (focus (first | exact fun _ => .int _ | exact fun _ => .bl _)))
    | ((with_reducible apply ev_iC); (focus (walk_at "ev")); (focus (walk_at "ev")); (focus (first | assumption | walk_at "cond")); (focus (exact fun _ => .int _)))
    | ((with_reducible apply ev_chain); (focus (walk_at "ev")); (focus (walk_at "ev")); (focus (walk_at "ev")))
    | ((with_reducible apply ev_eqI); (focus (walk_at "ev")); (focus (walk_at "ev")))
    | ((with_reducible apply ev_neI); (focus (walk_at "ev")); (focus (walk_at "ev")))
    | ((with_reducible apply ev_eqR); (focus (walk_at "ev")); (focus (walk_at "ev")))
    | ((with_reducible apply ev_neR); (focus (walk_at "ev")); (focus (walk_at "ev")))
    | ((with_reducible apply ev_isN); (focus (walk_at "ev")))
    | ((with_reducible apply ev_notN); (focus (walk_at "ev")))
    | ((with_reducible apply ev_in2); (focus (walk_at "ev")); (focus (walk_at "ev")); (focus (walk_at "ev")))
    | ((with_reducible apply ev_inP); (focus (walk_at "ev")); (focus (walk_at "ev")))
    | ((with_reducible apply ev_tup); (focus (walk_at "ed")); (focus (simp)))
    | ((with_reducible apply ev_lenT); (focus (walk_at "ev")))
    | ((with_reducible apply ev_lenL); (focus (walk_at "ev")))
    | ((with_reducible apply ev_lenS); (focus (walk_at "ev")))
    | ((with_reducible apply ev_lenN); (focus (walk_at "en")))
    | ((with_reducible apply ev_max2); (focus (walk_at "ev")); (focus (walk_at "ev")))
    | ((with_reducible apply ev_min2); (focus (walk_at "ev")); (focus (walk_at "ev")))
    | ((with_reducible apply ev_int1); (focus (walk_at "ev")))
    | ((with_reducible apply ev_tupleL); (focus (walk_at "ev")))
    | ((with_reducible apply ev_tupleN); (focus (walk_at "en")))
    | ((with_reducible apply ev_countT); (focus (walk_at "ev")); (focus (walk_at "ev")))
    | ((with_reducible apply ev_andV); (focus (walk_at "ev")); (focus (intro _; walk_at "ev")))
    | ((with_reducible apply ev_orV); (focus (walk_at "ev")); (focus (intro _; walk_at "ev")))
    | ((with_reducible apply ev_notV); (focus (walk_at "ev"))))
section
variable {P : Program} {w : World} {K : PySem.W.Frag} {mg : Str → Option Value} {base : Heap}
end
end K1
namespace K1
open PySem PySem.Spec PyProof.Rows L2 Pt
def sg (S : List Int) : Int := if S.length % 2 = 0 then 1 else -1
theorem sg_cons (x : Int) (S : List Int) : sg (x :: S) = - sg S := by
  unfold sg
  rw [List.length_cons]
  rcases Nat.mod_two_eq_zero_or_one S.length with h | h
  · rw [if_neg (by omega), if_pos h]
  · rw [if_pos (by omega), if_neg (by omega)]; rfl
theorem sum_app (l m : List Int) : (l ++ m).sum = l.sum + m.sum := List.sum_append
theorem sum_perm {l m : List Int} (h : l.Perm m) : l.sum = m.sum := by
  induction h with
  | nil => rfl
  | cons x _ ih => rw [List.sum_cons, List.sum_cons, ih]
  | swap x y l => rw [List.sum_cons, List.sum_cons, List.sum_cons, List.sum_cons]; omega
  | trans _ _ i j => exact i.trans j
theorem subs_sum : ∀ (x : Int) (l : List Int), ((subs (x :: l)).map sg).sum = 0 := fun x l => by
  unfold subs
  rw [List.map_append, sum_app, List.map_map]
  have : ∀ L : List (List Int), (L.map (sg ∘ (x :: ·))).sum = - (L.map sg).sum := fun L => by
    induction L with
    | nil => rfl
    | cons S L ih =>
      rw [List.map_cons, List.map_cons, List.sum_cons, List.sum_cons, ih]
      show sg (x :: S) + _ = _
      rw [sg_cons]
      omega
  rw [this]
  omega
theorem ind_sum {α : Type} (c : Int) (p : α → Bool) : ∀ U : List α, (U.map fun u => if p u = true then c else 0).sum = c * ((U.filter p).length : Int)
  | [] => by simp
  | u :: U => by
    rw [List.map_cons, List.sum_cons, ind_sum c p U]
    cases e : p u with
    | true =>
      rw [if_pos rfl, List.filter_cons_of_pos e, List.length_cons, Int.natCast_add, Int.mul_add]
      simp
      omega
    | false => rw [if_neg Bool.false_ne_true, List.filter_cons_of_neg (by rw [e]; exact Bool.false_ne_true)]; omega
theorem map_sum_add {α : Type} (f g : α → Int) : ∀ U : List α, (U.map fun u => f u + g u).sum = (U.map f).sum + (U.map g).sum
  | [] => rfl
  | u :: U => by
    rw [List.map_cons, List.map_cons, List.map_cons, List.sum_cons, List.sum_cons, List.sum_cons, map_sum_add f g U]
    omega
theorem swap_sum {α : Type} (p : List Int → α → Bool) (U : List α) : ∀ G : List (List Int), (G.map fun S => sg S * ((U.filter (p S)).length : Int)).sum = (U.map fun u => ((G.filter fun S => p S u).map sg).sum).sum
  | [] => by
    have : ∀ U : List α, (U.map fun u => (((([] : List (List Int)).filter fun S => p S u)).map sg).sum).sum = 0 := fun U => by
      induction U with
      | nil => rfl
      | cons u U ih => rw [List.map_cons, List.sum_cons, ih]; rfl
    rw [this]
    rfl
  | S :: G => by
    rw [List.map_cons, List.sum_cons, swap_sum p U G, ← ind_sum (sg S) (p S) U, ← map_sum_add]
    congr 1
    refine List.map_congr_left fun u _ => ?_
    cases e : p S u with
    | true => rw [if_pos rfl, List.filter_cons_of_pos (p := fun S => p S u) e, List.map_cons, List.sum_cons]
    | false => rw [if_neg Bool.false_ne_true, List.filter_cons_of_neg (p := fun S => p S u) (by rw [e]; exact Bool.false_ne_true)]; omega
theorem subs_mem : ∀ {l S : List Int}, S ∈ subs l → S.Sublist l
  | [], S, h => by
    have : S = [] := by simpa [subs] using h
    rw [this]
    exact List.Sublist.refl _
  | x :: l, S, h => by
    unfold subs at h
    rcases List.mem_append.mp h with h | h
    · obtain ⟨T, hT, rfl⟩ := List.mem_map.mp h
      exact (subs_mem hT).cons₂ x
    · exact (subs_mem h).cons x
theorem subs_nodup : ∀ {l : List Int}, l.Nodup → (subs l).Nodup
  | [], _ => by simp [subs]
  | x :: l, h => by
    have h' := List.nodup_cons.mp h
    unfold subs
    refine List.nodup_append.mpr ⟨?_, subs_nodup h'.2, fun S hS T hT e => ?_⟩
    · exact List.pairwise_map.mpr ((subs_nodup h'.2).imp fun ne e => ne (List.cons.inj e).2)
    · obtain ⟨R, _, rfl⟩ := List.mem_map.mp hS
      rw [← e] at hT
      exact h'.1 ((subs_mem hT).subset List.mem_cons_self)
def isGroup (ps : List (Int × Int)) (S : List Int) : Prop := S.Pairwise (· < ·) ∧ ∀ a ∈ S, ∀ b ∈ S, a ≠ b → may ps a b = true
structure Groups (n : Int) (ps : List (Int × Int)) (G : List (List Int)) : Prop where
  nd : G.Nodup
  mem : ∀ S, S ∈ G ↔ rowIn n S ∧ isGroup ps S
abbrev inStep (ps : List (Int × Int)) (S u : List Int) : Bool := S.all fun x => decide (x ∈ stepL ps u)
theorem strict_sub : ∀ {S l : List Int}, S.Pairwise (· < ·) → l.Pairwise (· < ·) → (∀ x ∈ S, x ∈ l) → S.Sublist l
  | [], l, _, _, _ => List.nil_sublist l
  | x :: S, [], _, _, h => by have := h x List.mem_cons_self; cases this
  | x :: S, y :: l, hS, hl, h => by
    obtain ⟨s1, s2⟩ := List.pairwise_cons.mp hS
    obtain ⟨l1, l2⟩ := List.pairwise_cons.mp hl
    by_cases e : x = y
    · subst e
      refine (strict_sub s2 l2 fun z hz => ?_).cons₂ x
      rcases List.mem_cons.mp (h z (List.mem_cons_of_mem _ hz)) with r | r
      · have := s1 z hz; omega
      · exact r
    · have hx : x ∈ l := (List.mem_cons.mp (h x List.mem_cons_self)).resolve_left e
      refine (strict_sub hS l2 fun z hz => ?_).cons y
      have hyx := l1 x hx
      rcases List.mem_cons.mp hz with rfl | hz'
      · exact hx
      · rcases List.mem_cons.mp (h z hz) with r | r
        · have := s1 z hz'; omega
        · exact r
theorem groups_of {n : Int} {ps : List (Int × Int)} (hok : PairsOk n ps) {G : List (List Int)} (hG : Groups n ps G) {u : List Int} (hu : rowIn n u) : (G.filter fun S => inStep ps S u).Perm (subs (stepL ps u)) := by
  have hs := stepL_strict hok u
  refine (List.perm_ext_iff_of_nodup (hG.nd.filter _) (subs_nodup (hs.imp fun h e => by omega))).mpr fun S => ?_
  rw [List.mem_filter, hG.mem]
  constructor
  · rintro ⟨⟨_, h1, _⟩, h2⟩
    refine mem_subs (strict_sub h1 hs fun x hx => ?_)
    have := List.all_eq_true.mp h2 x hx
    exact of_decide_eq_true this
  · intro h
    have sub := subs_mem h
    refine ⟨⟨fun x hx => hu x (step_mem (sub.subset hx)), hs.sublist sub, fun a ha b hb ne => step_free hok (sub.subset ha) (sub.subset hb) ne⟩, List.all_eq_true.mpr fun x hx => decide_eq_true (sub.subset hx)⟩
theorem row_sum {n : Int} {ps : List (Int × Int)} (hok : PairsOk n ps) {G : List (List Int)} (hG : Groups n ps G) {u : List Int} (hu : rowIn n u) (hne : u ≠ []) : ((G.filter fun S => inStep ps S u).map sg).sum = 0 := by
  rw [sum_perm ((groups_of hok hG hu).map sg)]
  cases e : stepL ps u with
  | nil => exact absurd e (step_ne hne)
  | cons x l => exact subs_sum x l
end K1
set_option maxRecDepth 10000000
namespace K1
open PySem PySem.Spec PyProof.Rows L2 Pt
theorem swap_alike {n : Int} {ps : List (Int × Int)} (hok : PairsOk n ps) {u v : List Int} (h : ∀ x ∈ u, ∀ y ∈ v, may ps x y = true) : Alike ps (u ++ v) (v ++ u) := by
  have hp : (u ++ v).Perm (v ++ u) := List.perm_append_comm
  refine (alike_iff hok).mpr ⟨hp, fun a b ne hm => ?_⟩
  rw [only_app, only_app]
  by_cases h1 : onlyL u a b = []
  · rw [h1, List.append_nil, List.nil_append]
  by_cases h2 : onlyL v a b = []
  · rw [h2, List.append_nil, List.nil_append]
  obtain ⟨x, hx⟩ := List.exists_mem_of_ne_nil _ h1
  obtain ⟨y, hy⟩ := List.exists_mem_of_ne_nil _ h2
  obtain ⟨mx, dx⟩ := List.mem_filter.mp hx
  obtain ⟨my, dy⟩ := List.mem_filter.mp hy
  have hxy := h x mx y my
  have nxy : x ≠ y := may_ne hok hxy
  rcases of_decide_eq_true dx with rfl | rfl
  · rcases of_decide_eq_true dy with rfl | rfl
    · exact absurd rfl nxy
    · rw [hxy] at hm; cases hm
  · rcases of_decide_eq_true dy with rfl | rfl
    · rw [may_comm, hxy] at hm; cases hm
    · exact absurd rfl nxy
theorem nodup_le {l : List Int} : ∀ {m : List Int}, m.Nodup → (∀ x ∈ m, x ∈ l) → m.length ≤ l.length := by
  intro m h s
  induction m generalizing l with
  | nil => exact Nat.zero_le _
  | cons x m ih =>
    obtain ⟨h1, h2⟩ := List.nodup_cons.mp h
    have hx := s x List.mem_cons_self
    have := ih (l := l.erase x) h2 fun y hy => (List.mem_erase_of_ne (fun e => h1 (by rw [← e]; exact hy))).mpr (s y (List.mem_cons_of_mem _ hy))
    rw [List.length_erase_of_mem hx] at this
    have hp := List.length_pos_of_mem hx
    simp only [List.length_cons]
    omega
end K1
namespace K1
open PySem PySem.Spec PyProof.Rows L2 Pt
structure LRows (n : Int) (ps : List (Int × Int)) (k : Nat) (U : List (List Int)) : Prop where
  nd : U.Nodup
  mem : ∀ u, u ∈ U ↔ rowIn n u ∧ u.length = k ∧ leastL ps u = u
theorem least_perm (ps : List (Int × Int)) (l : List Int) : l.Perm (leastL ps l) := let ⟨_, wk⟩ := least_alike ps l; wk.perm
theorem least_fix {n : Int} {ps : List (Int × Int)} (hok : PairsOk n ps) (l : List Int) : leastL ps (leastL ps l) = leastL ps l := (least_same hok (least_alike ps l)).symm
theorem group_first {n : Int} {ps : List (Int × Int)} (hok : PairsOk n ps) {S : List Int} (hS : isGroup ps S) (t : List Int) : ∀ x ∈ S, isFirst ps (S ++ t) x := fun x hx => by
  obtain ⟨a, b, rfl⟩ := List.append_of_mem hx
  have hlt := (List.pairwise_append.mp hS.1).2.2
  have sw : Alike ps (a ++ [x]) ([x] ++ a) := swap_alike hok fun y hy z hz => by
    rw [List.mem_singleton.mp hz]
    have : y < x := hlt y hy x List.mem_cons_self
    exact hS.2 y (List.mem_append.mpr (.inl hy)) x (List.mem_append.mpr (.inr List.mem_cons_self)) (by omega)
  refine ⟨a ++ (b ++ t), ?_⟩
  have e := sw.appR hok (b ++ t)
  rw [List.append_assoc, List.append_assoc] at e
  rw [List.append_assoc]
  exact e
theorem step_first {n : Int} {ps : List (Int × Int)} (hok : PairsOk n ps) {u : List Int} {x : Int} : x ∈ stepL ps u ↔ isFirst ps u x := (mem_step ps u x).trans (isFirst_iff hok)
theorem group_rows {n : Int} {ps : List (Int × Int)} (hok : PairsOk n ps) {S : List Int} (hin : rowIn n S) (hS : isGroup ps S) {k : Nat} {U V : List (List Int)} (hk : S.length ≤ k) (hU : LRows n ps k U) (hV : LRows n ps (k - S.length) V) : (U.filter (inStep ps S)).length = V.length := by
  have nS : S.Nodup := hS.1.imp fun h e => by omega
  have p : (U.filter (inStep ps S)).Perm (V.map fun t => leastL ps (S ++ t)) := by
    refine (List.perm_ext_iff_of_nodup (hU.nd.filter _) ?_).mpr fun u => ?_
    · have key : ∀ W : List (List Int), W.Nodup → (∀ t ∈ W, leastL ps t = t) → (W.map fun t => leastL ps (S ++ t)).Nodup := fun W => by
        induction W with
        | nil => intro _ _; exact List.nodup_nil
        | cons t W ih =>
          intro nd hW
          have nd' := List.nodup_cons.mp nd
          refine List.nodup_cons.mpr ⟨fun hm => nd'.1 ?_, ih nd'.2 fun t ht => hW t (List.mem_cons_of_mem _ ht)⟩
          obtain ⟨t', ht', e⟩ := List.mem_map.mp hm
          have e : leastL ps (S ++ t') = leastL ps (S ++ t) := e
          have al : Alike ps (S ++ t') (S ++ t) := ((least_alike ps _).trans (by rw [e]; exact .refl _ _)).trans (least_alike ps (S ++ t)).symm
          have := least_same hok (app_cancel hok al)
          rw [hW t' (List.mem_cons_of_mem _ ht'), hW t List.mem_cons_self] at this
          rw [← this]
          exact ht'
      exact key V hV.nd fun t ht => ((hV.mem t).mp ht).2.2
    · rw [List.mem_filter, hU.mem, List.mem_map]
      constructor
      · rintro ⟨⟨h1, h2, h3⟩, h4⟩
        have hf : ∀ x ∈ S, isFirst ps u x := fun x hx => (step_first hok).mp (of_decide_eq_true (List.all_eq_true.mp h4 x hx))
        obtain ⟨s, hs⟩ := left_firsts hok nS hf
        obtain ⟨al, sub⟩ := left_some hs
        have hlen : u.length = S.length + s.length := by
          obtain ⟨_, wk⟩ := id al
          rw [wk.perm.length_eq, List.length_append]
        refine ⟨leastL ps s, (hV.mem _).mpr ⟨fun x hx => h1 x (sub.subset ((least_perm ps s).mem_iff.mpr hx)), by rw [← (least_perm ps s).length_eq]; omega, least_fix hok s⟩, ?_⟩
        rw [← h3]
        exact (least_same hok (al.trans ((least_alike ps s).app S))).symm
      · rintro ⟨t, ht, rfl⟩
        obtain ⟨h1, h2, h3⟩ := (hV.mem t).mp ht
        have pm := least_perm ps (S ++ t)
        refine ⟨⟨fun x hx => (List.mem_append.mp (pm.mem_iff.mpr hx)).elim (hin x) (h1 x), by rw [← pm.length_eq, List.length_append]; omega, least_fix hok _⟩, List.all_eq_true.mpr fun x hx => decide_eq_true ?_⟩
        obtain ⟨m, hm⟩ := group_first hok hS t x hx
        exact (step_first hok).mpr ⟨m, (least_alike ps (S ++ t)).symm.trans hm⟩
  rw [p.length_eq, List.length_map]
theorem group_none {n : Int} {ps : List (Int × Int)} {S : List Int} (hS : isGroup ps S) {k : Nat} {U : List (List Int)} (hk : k < S.length) (hU : LRows n ps k U) : U.filter (inStep ps S) = [] := by
  rw [List.filter_eq_nil_iff]
  intro u hu h
  have h2 := ((hU.mem u).mp hu).2.1
  have nS : S.Nodup := hS.1.imp fun h e => by omega
  have := K1.nodup_le (l := u) nS fun x hx => step_mem (of_decide_eq_true (List.all_eq_true.mp h x hx))
  omega
theorem rows_rule {n : Int} {ps : List (Int × Int)} (hok : PairsOk n ps) {G : List (List Int)} (hG : Groups n ps G) {U : Nat → List (List Int)} (hU : ∀ k, LRows n ps k (U k)) {k : Nat} (hk : 0 < k) :
    (G.map fun S => sg S * (if S.length ≤ k then ((U (k - S.length)).length : Int) else 0)).sum = 0 := by
  have e : (G.map fun S => sg S * (if S.length ≤ k then ((U (k - S.length)).length : Int) else 0)) = G.map fun S => sg S * (((U k).filter (inStep ps S)).length : Int) := List.map_congr_left fun S hS => by
    obtain ⟨h1, h2⟩ := (hG.mem S).mp hS
    by_cases z : S.length ≤ k
    · rw [if_pos z, group_rows hok h1 h2 z (hU k) (hU _)]
    · rw [if_neg z, group_none h2 (by omega) (hU k)]
      rfl
  rw [e, swap_sum]
  have zero : ∀ L : List (List Int), (∀ u ∈ L, u ∈ U k) → (L.map fun u => ((G.filter fun S => inStep ps S u).map sg).sum).sum = 0 := fun L => by
    induction L with
    | nil => intro _; rfl
    | cons u L ih =>
      intro h
      obtain ⟨h1, h2, _⟩ := ((hU k).mem u).mp (h u List.mem_cons_self)
      rw [List.map_cons, List.sum_cons, ih fun u hu => h u (List.mem_cons_of_mem _ hu), row_sum hok hG h1 fun e => by rw [e] at h2; simp at h2; omega]
      rfl
  exact zero (U k) fun u h => h
def allR (n : Nat) : Nat → List (List Int)
  | 0 => [[]]
  | k + 1 => (allR n k).flatMap fun r => (List.range n).map fun a : Nat => r ++ [(a : Int)]
theorem mem_allR {n : Nat} : ∀ {k : Nat} {r : List Int}, r ∈ allR n k ↔ rowIn n r ∧ r.length = k
  | 0, r => by
    unfold allR
    rw [List.mem_singleton]
    exact ⟨fun e => by rw [e]; exact ⟨fun x hx => (by cases hx), rfl⟩, fun h => List.length_eq_zero_iff.mp h.2⟩
  | k + 1, r => by
    unfold allR
    rw [List.mem_flatMap]
    constructor
    · rintro ⟨s, hs, h⟩
      obtain ⟨a, ha, rfl⟩ := List.mem_map.mp h
      obtain ⟨h1, h2⟩ := mem_allR.mp hs
      have ha := List.mem_range.mp ha
      refine ⟨fun x hx => ?_, by rw [List.length_append, h2]; rfl⟩
      rcases List.mem_append.mp hx with hx | hx
      · exact h1 x hx
      · rw [List.mem_singleton.mp hx]; omega
    · rintro ⟨h1, h2⟩
      rcases List.eq_nil_or_concat r with rfl | ⟨s, a, rfl⟩
      · cases h2
      · rw [List.concat_eq_append] at *
        have ha := h1 a (by simp)
        refine ⟨s, mem_allR.mpr ⟨fun x hx => h1 x (by simp [hx]), by rw [List.length_append] at h2; simpa using h2⟩, List.mem_map.mpr ⟨a.toNat, List.mem_range.mpr (by omega), ?_⟩⟩
        rw [Int.toNat_of_nonneg ha.1]
end K1
namespace K1
open PySem PySem.Spec PyProof.Rows L2 Pt
abbrev tm (A : List Int) (j : Nat) : Int := A.getD j 0
theorem sum_congr {α : Type} {f g : α → Int} {l : List α} (h : ∀ x ∈ l, f x = g x) : (l.map f).sum = (l.map g).sum := congrArg List.sum (List.map_congr_left h)
theorem sum_mod {α : Type} {f g : α → Int} {m : Int} : ∀ {l : List α}, (∀ x ∈ l, f x % m = g x % m) → (l.map f).sum % m = (l.map g).sum % m
  | [], _ => rfl
  | x :: l, h => by
    rw [List.map_cons, List.map_cons, List.sum_cons, List.sum_cons, Int.add_emod, h x List.mem_cons_self, sum_mod fun y hy => h y (List.mem_cons_of_mem _ hy), ← Int.add_emod]
theorem tri_swap (f : Nat → Nat → Int) : ∀ i : Nat, ((List.range (i + 1)).map fun j => ((List.range (j + 1)).map fun k => f k (j - k)).sum).sum = ((List.range (i + 1)).map fun k => ((List.range (i - k + 1)).map fun j => f k j).sum).sum
  | 0 => rfl
  | i + 1 => by
    rw [List.range_succ (n := i + 1), List.map_append, sum_app, tri_swap f i, List.map_append, sum_app]
    have e1 : ((List.range (i + 1)).map fun k => ((List.range (i + 1 - k + 1)).map fun j => f k j).sum).sum = ((List.range (i + 1)).map fun k => ((List.range (i - k + 1)).map fun j => f k j).sum).sum + ((List.range (i + 1)).map fun k => f k (i + 1 - k)).sum := by
      rw [← map_sum_add]
      refine sum_congr fun k hk => ?_
      have hk := List.mem_range.mp hk
      rw [show i + 1 - k + 1 = (i - k + 1) + 1 by omega, List.range_succ, List.map_append, sum_app, show i - k + 1 = i + 1 - k by omega]
      simp
    rw [e1]
    have e2 : (([i + 1] : List Nat).map fun j => ((List.range (j + 1)).map fun k => f k (j - k)).sum).sum = ((List.range (i + 1)).map fun k => f k (i + 1 - k)).sum + f (i + 1) 0 := by
      show ((List.range (i + 1 + 1)).map fun k => f k (i + 1 - k)).sum + 0 = _
      rw [List.range_succ (n := i + 1), List.map_append, sum_app]
      simp
    have e3 : (([i + 1] : List Nat).map fun k => ((List.range (i + 1 - k + 1)).map fun j => f k j).sum).sum = f (i + 1) 0 := by
      show ((List.range (i + 1 - (i + 1) + 1)).map fun j => f (i + 1) j).sum + 0 = _
      rw [Nat.sub_self]
      simp
    rw [e2, e3]
    omega
def cvf (f g : Nat → Int) (i : Nat) : Int := ((List.range (i + 1)).map fun j => f j * g (i - j)).sum
theorem sum_rev (f : Nat → Int) (n : Nat) : ((List.range (n + 1)).map f).sum = ((List.range (n + 1)).map fun j => f (n - j)).sum := by
  have p : (List.range (n + 1)).Perm ((List.range (n + 1)).map fun j => n - j) := (List.perm_ext_iff_of_nodup List.nodup_range (List.pairwise_map.mpr ((List.nodup_range (n := n + 1)).imp_of_mem fun ha hb ne e => by
    have := List.mem_range.mp ha
    have := List.mem_range.mp hb
    exact ne (by omega)))).mpr fun x => by
    rw [List.mem_map, List.mem_range]
    constructor
    · intro h; exact ⟨n - x, List.mem_range.mpr (by omega), by omega⟩
    · rintro ⟨j, hj, rfl⟩; have := List.mem_range.mp hj; omega
  have := sum_perm (p.map f)
  rwa [List.map_map] at this
theorem cvf_comm (f g : Nat → Int) (i : Nat) : cvf f g i = cvf g f i := by
  unfold cvf
  rw [sum_rev]
  refine sum_congr fun j hj => ?_
  have := List.mem_range.mp hj
  rw [show i - (i - j) = j by omega, Int.mul_comm]
theorem sum_mul (c : Int) {α : Type} (f : α → Int) : ∀ l : List α, (l.map fun x => c * f x).sum = c * (l.map f).sum
  | [] => by simp
  | x :: l => by rw [List.map_cons, List.map_cons, List.sum_cons, List.sum_cons, sum_mul c f l, Int.mul_add]
theorem mul_sum (c : Int) {α : Type} (f : α → Int) (l : List α) : (l.map fun x => f x * c).sum = (l.map f).sum * c := by
  rw [Int.mul_comm, ← sum_mul]
  exact sum_congr fun x _ => Int.mul_comm _ _
theorem cvf_assoc (f g h : Nat → Int) (i : Nat) : cvf (cvf f g) h i = cvf f (cvf g h) i := by
  have e1 : cvf (cvf f g) h i = ((List.range (i + 1)).map fun j => ((List.range (j + 1)).map fun k => f k * g (j - k) * h (i - k - (j - k))).sum).sum := by
    unfold cvf
    refine sum_congr fun j hj => ?_
    rw [← mul_sum]
    refine sum_congr fun k hk => ?_
    have hj := List.mem_range.mp hj
    have hk := List.mem_range.mp hk
    rw [show i - k - (j - k) = i - j by omega]
  rw [e1, tri_swap (fun k l => f k * g l * h (i - k - l))]
  unfold cvf
  refine sum_congr fun k _ => ?_
  rw [← sum_mul]
  exact sum_congr fun l _ => Int.mul_assoc _ _ _
theorem cvf_mod {m : Int} {f f' g g' : Nat → Int} {i : Nat} (hf : ∀ j, j ≤ i → f j % m = f' j % m) (hg : ∀ j, j ≤ i → g j % m = g' j % m) : cvf f g i % m = cvf f' g' i % m := by
  unfold cvf
  refine sum_mod fun j hj => ?_
  have := List.mem_range.mp hj
  rw [Int.mul_emod, hf j (by omega), hg (i - j) (by omega), ← Int.mul_emod]
def alt (f : Nat → Int) (j : Nat) : Int := (if j % 2 = 0 then 1 else -1) * f j
theorem alt_odd (f : Nat → Int) {i : Nat} (hi : i % 2 = 1) : cvf f (alt f) i = 0 := by
  have e : cvf f (alt f) i = - cvf f (alt f) i := by
    conv => lhs; unfold cvf; rw [sum_rev]
    unfold cvf
    rw [show ∀ x : Int, -x = (-1) * x from fun x => by omega, ← sum_mul]
    refine sum_congr fun j hj => ?_
    have hj := List.mem_range.mp hj
    unfold alt
    rw [show i - (i - j) = j by omega]
    rcases Nat.mod_two_eq_zero_or_one j with z | z
    · rw [if_pos z, if_neg (by omega), Int.one_mul]
      rw [Int.mul_left_comm (f j), ← Int.mul_assoc (-1) (-1)]
      simp [Int.mul_comm]
    · rw [if_neg (by omega), if_pos (by omega), Int.one_mul]
      rw [Int.mul_left_comm (f (i - j))]
      simp [Int.mul_comm]
  omega
def Ser (m : Int) (B A F : Nat → Int) : Prop := ∀ i, cvf B F i % m = A i % m
theorem sum_even (f : Nat → Int) (h : ∀ j, j % 2 = 1 → f j = 0) : ∀ i p : Nat, p ≤ 1 → ((List.range (2 * i + p + 1)).map f).sum = ((List.range (i + 1)).map fun s => f (2 * s)).sum
  | 0, p, hp => by
    have : p = 0 ∨ p = 1 := by omega
    rcases this with rfl | rfl
    · rfl
    · show f 0 + (f 1 + 0) = f (2 * 0) + 0
      rw [h 1 rfl]
      simp
  | i + 1, p, hp => by
    rw [List.range_succ (n := i + 1), List.map_append, sum_app, ← sum_even f h i 1 (by omega)]
    have : p = 0 ∨ p = 1 := by omega
    rcases this with rfl | rfl
    · rw [show 2 * (i + 1) + 0 + 1 = (2 * i + 1 + 1) + 1 by omega, List.range_succ, List.map_append, sum_app]
      rfl
    · rw [show 2 * (i + 1) + 1 + 1 = (2 * i + 1 + 1) + 1 + 1 by omega, List.range_succ, List.map_append, sum_app, List.range_succ, List.map_append, sum_app]
      have : f (2 * i + 1 + 1 + 1) = 0 := h _ (by omega)
      simp [this]
      rfl
theorem Ser.half {m : Int} {B A F C D : Nat → Int} (h : Ser m B A F) {p : Nat} (hp : p ≤ 1) (hC : ∀ s, C s % m = cvf B (alt B) (2 * s) % m) (hD : ∀ s, D s % m = cvf A (alt B) (2 * s + p) % m) : Ser m C D fun i => F (2 * i + p) := fun i => by
  have whole : cvf (cvf B (alt B)) F (2 * i + p) % m = D i % m := by
    have e : cvf (cvf B (alt B)) F (2 * i + p) = cvf (alt B) (cvf B F) (2 * i + p) := by
      rw [← cvf_assoc]
      unfold cvf
      refine sum_congr fun j _ => ?_
      have := cvf_comm B (alt B) j
      unfold cvf at this
      rw [this]
    rw [e, cvf_mod (fun _ _ => rfl) (fun j _ => h j), cvf_comm, hD i]
  rw [← whole]
  have ev : cvf (cvf B (alt B)) F (2 * i + p) = cvf (fun s => cvf B (alt B) (2 * s)) (fun i => F (2 * i + p)) i := by
    show ((List.range (2 * i + p + 1)).map fun j => cvf B (alt B) j * F (2 * i + p - j)).sum = _
    rw [sum_even _ (fun j hj => by rw [alt_odd B hj, Int.zero_mul]) i p hp]
    unfold cvf
    refine sum_congr fun s hs => ?_
    have hs := List.mem_range.mp hs
    rw [show 2 * i + p - 2 * s = 2 * (i - s) + p by omega]
  rw [ev]
  exact cvf_mod (fun j _ => hC j) fun _ _ => rfl
end K1
namespace K1
open PySem PySem.Spec PyProof.Rows L2 Pt
local macro_rules
  | `(tactic| walk_at "sz") => `(tactic| first
    | omega
    | decide
    | (simp; omega)
    | (simp [iL, row, pairsD]; omega))
  | `(tactic| walk_at "ea") => `(tactic| first
    | (with_reducible exact ea_nil)
    | ((with_reducible apply ea_consL); (focus (walk_at "ev")); (focus (walk_at "ea")))
    | ((with_reducible apply ea_consS); (focus (walk_at "ev")); (focus (walk_at "ea")))
    | ((with_reducible apply ea_cons); (focus (walk_at "ev")); (focus (walk_at "ea")))
    | ((with_reducible apply ea_consN); (focus (walk_at "en")); (focus (walk_at "ea"))))
  | `(tactic| walk_at "ed") => `(tactic| first
    | (with_reducible exact ed_nil)
    | ((with_reducible apply ed_cons); (focus (walk_at "ev")); (focus (walk_at "ed"))))
  | `(tactic| walk_at "en") => `(tactic| first
    | ((with_reducible apply en_lst); (focus (walk_at "ed")); (focus (simp)))
    | ((with_reducible apply en_listT); (focus (walk_at "ev")))
    | ((with_reducible apply en_addL); (focus (walk_at "ev")); (focus (walk_at "en")); (focus (walk_at "sz")))
    | ((with_reducible apply en_addN); (focus (walk_at "en")); (focus (walk_at "en")); (focus (walk_at "sz")))
    | ((with_reducible apply en_slL); (focus (walk_at "ev")); (focus (walk_at "eo")); (focus (walk_at "eo"))))
  | `(tactic| walk_at "eo") => `(tactic| first
    | (with_reducible exact eo_none)
    | ((with_reducible apply eo_some); (focus (walk_at "ev"))))
  | `(tactic| walk_at "et") => `(tactic| first
    | (with_reducible exact et_yes)
    | ((with_reducible apply et_test); (focus (walk_at "ev")))
    | ((with_reducible apply et_B); (focus (walk_at "ev")))
    | ((with_reducible apply et_truB); (focus (walk_at "ev")))
    | ((with_reducible apply et_truT); (focus (walk_at "ev")))
    | ((with_reducible apply et_not); (focus (walk_at "et")))
    | ((with_reducible apply et_and); (focus (walk_at "et")); (focus (intro _; walk_at "et")))
    | ((with_reducible apply et_or); (focus (walk_at "et")); (focus (intro _; walk_at "et"))))
  | `(tactic| walk_at "var") => `(tactic| first
    | ((with_reducible apply ev_varD); (focus (assumption)); (focus (rfl)))
    | ((with_reducible apply ev_varL); (focus (assumption)); (focus (rfl)))
    | ((with_reducible apply ev_varS); (focus (assumption)); (focus (rfl)))
    | ((with_reducible apply ev_varT); (focus (assumption)); (focus (rfl)))
    | ((with_reducible apply ev_varH); (focus (assumption)); (focus (rfl)))
    | ((with_reducible apply ev_varZ); (focus (assumption)); (focus (rfl))))
  | `(tactic| walk_at "ev") => `(tactic| first
    | walk_at "var"
    | (with_reducible exact ev_int)
    | (with_reducible exact ev_bl)
    | (with_reducible exact ev_str)
    | (with_reducible exact ev_non)
    | ((with_reducible apply ev_letters); (focus (walk_at "ev")))
    | ((with_reducible apply ev_pairs); (focus (walk_at "ev")))
    | ((with_reducible apply ev_addI); (focus (walk_at "ev")); (focus (walk_at "ev")))
    | ((with_reducible apply ev_addT); (focus (walk_at "ev")); (focus (walk_at "ev")); (focus (walk_at "sz")))
    | ((with_reducible apply ev_i0); (focus (walk_at "ev")); (focus (walk_at "ev")); (focus (first | exact fun _ => .int _ | exact fun _ => .bl _)))
    | ((with_reducible apply ev_iC); (focus (walk_at "ev")); (focus (walk_at "ev")); (focus (first | assumption | walk_at "cond")); (focus (exact fun _ => .int _)))
    | ((with_reducible apply ev_chain); (focus (walk_at "ev")); (focus (walk_at "ev")); (focus (walk_at "ev")))
    | ((with_reducible apply ev_eqI); (focus (walk_at "ev")); (focus (walk_at "ev")))
    | ((with_reducible apply ev_neI); (focus (walk_at "ev")); (focus (walk_at "ev")))
    | ((with_reducible apply ev_eqR); (focus (walk_at "ev")); (focus (walk_at "ev")))
    | ((with_reducible apply ev_neR); (focus (walk_at "ev")); (focus (walk_at "ev")))
    | ((with_reducible apply ev_isN); (focus (walk_at "ev")))
    | ((with_reducible apply ev_notN); (focus (walk_at "ev")))
    | ((with_reducible apply ev_in2); (focus (walk_at "ev")); (focus (walk_at "ev")); (focus (walk_at "ev")))
    | ((with_reducible apply ev_inP); (focus (walk_at "ev")); (focus (walk_at "ev")))
    | ((with_reducible apply ev_tup); (focus (walk_at "ed")); (focus (simp)))
    | ((with_reducible apply ev_lenT); (focus (walk_at "ev")))
    | ((with_reducible apply ev_lenL); (focus (walk_at "ev")))
    | ((with_reducible apply ev_lenS); (focus (walk_at "ev")))
    | ((with_reducible apply ev_lenN); (focus (walk_at "en")))
    | ((with_reducible apply ev_max2); (focus (walk_at "ev")); (focus (walk_at "ev")))
    | ((with_reducible apply ev_min2); (focus (walk_at "ev")); (focus (walk_at "ev")))
    | ((with_reducible apply ev_int1); (focus (walk_at "ev")))
    | ((with_reducible apply ev_tupleL); (focus (walk_at "ev")))
    | ((with_reducible apply ev_tupleN); (focus (walk_at "en")))
    | ((with_reducible apply ev_countT); (focus (walk_at "ev")); (focus (walk_at "ev")))
    | ((with_reducible apply ev_andV); (focus (walk_at "ev")); (focus (intro _; walk_at "ev")))
    | ((with_reducible apply ev_orV); (focus (walk_at "ev")); (focus (intro _; walk_at "ev")))
    | ((with_reducible apply ev_notV); (focus (walk_at "ev"))))
abbrev joins (ps : List (Int × Int)) (S : List Int) (a : Int) : Bool := S.all fun x => may ps x a
def grL (ps : List (Int × Int)) : Nat → List (List Int)
  | 0 => [[]]
  | k + 1 => grL ps k ++ ((grL ps k).filter fun S => joins ps S (k : Nat)).map fun S => S ++ [((k : Nat) : Int)]
theorem gr_len (ps : List (Int × Int)) : ∀ k, (grL ps k).length ≤ 2 ^ k
  | 0 => Nat.le_refl _
  | k + 1 => by
    have ih := gr_len ps k
    have h2 := List.length_filter_le (fun S => joins ps S (k : Nat)) (grL ps k)
    unfold grL
    rw [List.length_append, List.length_map, Nat.pow_succ]
    omega
theorem gr_lt (ps : List (Int × Int)) : ∀ k, ∀ S ∈ grL ps k, ∀ x ∈ S, 0 ≤ x ∧ x < (k : Nat)
  | 0, S, h, x, hx => by
    have : S = [] := by simpa [grL] using h
    rw [this] at hx
    cases hx
  | k + 1, S, h, x, hx => by
    unfold grL at h
    rcases List.mem_append.mp h with h | h
    · have := gr_lt ps k S h x hx; omega
    · obtain ⟨T, hT, rfl⟩ := List.mem_map.mp h
      rcases List.mem_append.mp hx with hx | hx
      · have := gr_lt ps k T (List.mem_filter.mp hT).1 x hx; omega
      · rw [List.mem_singleton.mp hx]; omega
theorem gr_size (ps : List (Int × Int)) : ∀ k, ∀ S ∈ grL ps k, S.length ≤ k
  | 0, S, h => by
    have : S = [] := by simpa [grL] using h
    rw [this]; exact Nat.le_refl _
  | k + 1, S, h => by
    unfold grL at h
    rcases List.mem_append.mp h with h | h
    · exact Nat.le_succ_of_le (gr_size ps k S h)
    · obtain ⟨T, hT, rfl⟩ := List.mem_map.mp h
      rw [List.length_append]
      exact Nat.succ_le_succ (gr_size ps k T (List.mem_filter.mp hT).1)
theorem gr_groups {n : Int} {ps : List (Int × Int)} : ∀ k : Nat, Groups (k : Nat) ps (grL ps k)
  | 0 => ⟨by simp [grL], fun S => by
    unfold grL
    rw [List.mem_singleton]
    constructor
    · rintro rfl; exact ⟨fun x hx => (by cases hx), List.Pairwise.nil, fun a ha => (by cases ha)⟩
    · rintro ⟨h, _⟩
      cases S with
      | nil => rfl
      | cons x S => have := h x List.mem_cons_self; omega⟩
  | k + 1 => by
    obtain ⟨i1, i2⟩ := gr_groups (n := n) (ps := ps) k
    refine ⟨?_, fun S => ?_⟩
    · unfold grL
      refine List.nodup_append.mpr ⟨i1, List.pairwise_map.mpr ((i1.filter _).imp fun ne e => ne (List.append_cancel_right e)), fun S hS T hT e => ?_⟩
      obtain ⟨R, _, rfl⟩ := List.mem_map.mp hT
      have := gr_lt ps k S hS (k : Nat) (by rw [e]; simp)
      omega
    · unfold grL
      rw [List.mem_append, i2 S, List.mem_map]
      constructor
      · rintro (⟨h1, h2⟩ | ⟨T, hT, rfl⟩)
        · exact ⟨fun x hx => by have := h1 x hx; omega, h2⟩
        · obtain ⟨hT, hj⟩ := List.mem_filter.mp hT
          obtain ⟨h1, h2, h3⟩ := (i2 T).mp hT
          have hj := List.all_eq_true.mp hj
          refine ⟨fun x hx => ?_, List.pairwise_append.mpr ⟨h2, by simp, fun x hx y hy => ?_⟩, fun a ha b hb ne => ?_⟩
          · rcases List.mem_append.mp hx with hx | hx
            · have := h1 x hx; omega
            · rw [List.mem_singleton.mp hx]; omega
          · rw [List.mem_singleton.mp hy]; exact (h1 x hx).2
          · rcases List.mem_append.mp ha with ha | ha
            · rcases List.mem_append.mp hb with hb | hb
              · exact h3 a ha b hb ne
              · rw [List.mem_singleton.mp hb]; exact hj a ha
            · rcases List.mem_append.mp hb with hb | hb
              · rw [List.mem_singleton.mp ha, may_comm]; exact hj b hb
              · exact absurd ((List.mem_singleton.mp ha).trans (List.mem_singleton.mp hb).symm) ne
      · rintro ⟨h1, h2, h3⟩
        rcases List.eq_nil_or_concat S with rfl | ⟨T, a, e⟩
        · exact .inl ⟨fun x hx => (by cases hx), h2, h3⟩
        · rw [List.concat_eq_append] at e
          subst e
          obtain ⟨p1, _, p3⟩ := List.pairwise_append.mp h2
          have lt : ∀ x ∈ T, x < a := fun x hx => p3 x hx a (by simp)
          have ha := h1 a (by simp)
          by_cases hk : a = (k : Nat)
          · subst hk
            refine .inr ⟨T, List.mem_filter.mpr ⟨(i2 T).mpr ⟨fun x hx => ⟨(h1 x (by simp [hx])).1, lt x hx⟩, p1, fun x hx y hy ne => h3 x (by simp [hx]) y (by simp [hy]) ne⟩, List.all_eq_true.mpr fun x hx => h3 x (by simp [hx]) _ (by simp) (by have := lt x hx; omega)⟩, rfl⟩
          · refine .inl ⟨fun x hx => ?_, h2, h3⟩
            have h0 := h1 x hx
            rcases List.mem_append.mp hx with hx | hx
            · have := lt x hx; omega
            · rw [List.mem_singleton.mp hx] at h0 ⊢; omega
end K1
namespace K1
open PySem PySem.Spec PyProof.Rows L2 Pt
local macro_rules
  | `(tactic| walk_at "sz") => `(tactic| first
    | omega
    | decide
    | (simp; omega)
    | (simp [iL, row, pairsD]; omega))
  | `(tactic| walk_at "ea") => `(tactic| first
    | (with_reducible exact ea_nil)
    | ((with_reducible apply ea_consL); (focus (walk_at "ev")); (focus (walk_at "ea")))
    | ((with_reducible apply ea_consS); (focus (walk_at "ev")); (focus (walk_at "ea")))
    | ((with_reducible apply ea_cons); (focus (walk_at "ev")); (focus (walk_at "ea")))
    | ((with_reducible apply ea_consN); (focus (walk_at "en")); (focus (walk_at "ea"))))
  | `(tactic| walk_at "ed") => `(tactic| first
    | (with_reducible exact ed_nil)
    | ((with_reducible apply ed_cons); (focus (walk_at "ev")); (focus (walk_at "ed"))))
  | `(tactic| walk_at "en") => `(tactic| first
    | ((with_reducible apply en_lst); (focus (walk_at "ed")); (focus (simp)))
    | ((with_reducible apply en_listT); (focus (walk_at "ev")))
    | ((with_reducible apply en_addL); (focus (walk_at "ev")); (focus (walk_at "en")); (focus (walk_at "sz")))
    | ((with_reducible apply en_addN); (focus (walk_at "en")); (focus (walk_at "en")); (focus (walk_at "sz")))
    | ((with_reducible apply en_slL); (focus (walk_at "ev")); (focus (walk_at "eo")); (focus (walk_at "eo"))))
  | `(tactic| walk_at "eo") => `(tactic| first
    | (with_reducible exact eo_none)
    | ((with_reducible apply eo_some); (focus (walk_at "ev"))))
  | `(tactic| walk_at "et") => `(tactic| first
    | (with_reducible exact et_yes)
    | ((with_reducible apply et_test); (focus (walk_at "ev")))
    | ((with_reducible apply et_B); (focus (walk_at "ev")))
    | ((with_reducible apply et_truB); (focus (walk_at "ev")))
    | ((with_reducible apply et_truT); (focus (walk_at "ev")))
    | ((with_reducible apply et_not); (focus (walk_at "et")))
    | ((with_reducible apply et_and); (focus (walk_at "et")); (focus (intro _; walk_at "et")))
    | ((with_reducible apply et_or); (focus (walk_at "et")); (focus (intro _; walk_at "et"))))
  | `(tactic| walk_at "var") => `(tactic| first
    | ((with_reducible apply ev_varD); (focus (assumption)); (focus (rfl)))
    | ((with_reducible apply ev_varL); (focus (assumption)); (focus (rfl)))
    | ((with_reducible apply ev_varS); (focus (assumption)); (focus (rfl)))
    | ((with_reducible apply ev_varT); (focus (assumption)); (focus (rfl)))
    | ((with_reducible apply ev_varH); (focus (assumption)); (focus (rfl)))
    | ((with_reducible apply ev_varZ); (focus (assumption)); (focus (rfl))))
  | `(tactic| walk_at "ev") => `(tactic| first
    | walk_at "var"
    | (with_reducible exact ev_int)
    | (with_reducible exact ev_bl)
    | (with_reducible exact ev_str)
    | (with_reducible exact ev_non)
    | ((with_reducible apply ev_letters); (focus (walk_at "ev")))
    | ((with_reducible apply ev_pairs); (focus (walk_at "ev")))
    | ((with_reducible apply ev_addI); (focus (walk_at "ev")); (focus (walk_at "ev")))
    | ((with_reducible apply ev_addT); (focus (walk_at "ev")); (focus (walk_at "ev")); (focus (walk_at "sz")))
    | ((with_reducible apply ev_i0); (focus (walk_at "ev")); (focus (walk_at "ev")); (focus (first | exact fun _ => .int _ | exact fun _ => .bl _)))
    | ((with_reducible apply ev_iC); (focus (walk_at "ev")); (focus (walk_at "ev")); (focus (first | assumption | walk_at "cond")); (focus (exact fun _ => .int _)))
    | ((with_reducible apply ev_chain); (focus (walk_at "ev")); (focus (walk_at "ev")); (focus (walk_at "ev")))
    | ((with_reducible apply ev_eqI); (focus (walk_at "ev")); (focus (walk_at "ev")))
    | ((with_reducible apply ev_neI); (focus (walk_at "ev")); (focus (walk_at "ev")))
    | ((with_reducible apply ev_eqR); (focus (walk_at "ev")); (focus (walk_at "ev")))
    | ((with_reducible apply ev_neR); (focus (walk_at "ev")); (focus (walk_at "ev")))
    | ((with_reducible apply ev_isN); (focus (walk_at "ev")))
    | ((with_reducible apply ev_notN); (focus (walk_at "ev")))
    | ((with_reducible apply ev_in2); (focus (walk_at "ev")); (focus (walk_at "ev")); (focus (walk_at "ev")))
    | ((with_reducible apply ev_inP); (focus (walk_at "ev")); (focus (walk_at "ev")))
    | ((with_reducible apply ev_tup); (focus (walk_at "ed")); (focus (simp)))
    | ((with_reducible apply ev_lenT); (focus (walk_at "ev")))
    | ((with_reducible apply ev_lenL); (focus (walk_at "ev")))
    | ((with_reducible apply ev_lenS); (focus (walk_at "ev")))
    | ((with_reducible apply ev_lenN); (focus (walk_at "en")))
    | ((with_reducible apply ev_max2); (focus (walk_at "ev")); (focus (walk_at "ev")))
    | ((with_reducible apply ev_min2); (focus (walk_at "ev")); (focus (walk_at "ev")))
    | ((with_reducible apply ev_int1); (focus (walk_at "ev")))
    | ((with_reducible apply ev_tupleL); (focus (walk_at "ev")))
    | ((with_reducible apply ev_tupleN); (focus (walk_at "en")))
    | ((with_reducible apply ev_countT); (focus (walk_at "ev")); (focus (walk_at "ev")))
    | ((with_reducible apply ev_andV); (focus (walk_at "ev")); (focus (intro _; walk_at "ev")))
    | ((with_reducible apply ev_orV); (focus (walk_at "ev")); (focus (intro _; walk_at "ev")))
    | ((with_reducible apply ev_notV); (focus (walk_at "ev"))))
theorem rows_dep8x (L : List (List Int)) : ∀ d ∈ L.map row, d.depth ≤ 8 := fun d hd => by
  obtain ⟨m, _, rfl⟩ := List.mem_map.mp hd
  exact row_depth m
theorem rows_tupx (L : List (List Int)) : ∀ d ∈ L.map row, ∃ x, d = .tuple x := fun d hd => by
  obtain ⟨m, _, rfl⟩ := List.mem_map.mp hd
  exact ⟨_, rfl⟩
section
variable {P : Program} {w : World} {K : PySem.W.Frag} {mg : Str → Option Value} {base : Heap}
abbrev A_may_join (as : List Ag) (d : PyData) : Prop := ∃ (n : Int) (ps : List (Int × Int)) (S : List Int) (a : Int), S.length ≤ 20 ∧ as = [.c (.t n ps), .c (.d (row S)), .c (.d (.int a))] ∧ d = .bool (joins ps S a)
theorem ok_may_join (E : Nv K mg) : FnOk P w K mg base CX0 10 E.a_may_join E.d_may_join ["trade", "group", "letter"] (spC K E.C_Trade A_may_join) := by
  refine E.F_may_join.ok sc_may_join (fun vs H Q _ h => ?_) (fun cdv A outer s H vs Q _ hr h => ?_)
  · obtain ⟨as, d, ha, ⟨_, _, _, _, _, rfl, _⟩, _⟩ := h
    exact ha.length
  · obtain ⟨as, d, ha, ⟨n, ps, S, a, hS, rfl, rfl⟩, q⟩ := h
    obtain ⟨v1, v2, v3, rfl, a1, a2, a3⟩ := ha.three
    refine ⟨_, (pss_one (ps_ret (pe_callB (call_allK K rfl) (by rfl) E.n_all (by decide +kernel) (pa_cons (pe_lc (own := [("other", 3)]) (g := gName 3) (by rfl) sc_may_join.nd (pi_tupK K (pv 1)) (blkOk_by (own := [("other", 3)]) (N := N_may_join) (sc := defScope s_may_join) (by decide +kernel)) (fun _ _ _ _ _ => (pg_name (i := 3) sc_may_join.nd rfl (Or.inl rfl))) (fun _ _ _ _ _ => pts_nil) (fun _ _ _ _ _ => (pe_call (ok_may_change E) (hr.mono (by first | decide | omega)) (by rfl) E.m_may_change E.F_may_change.kp E.b_may_change .nil pass0 (pa_cons (pv 0) (pa_cons (pv 3) (pa_cons (pv 2) pa_nil)))))) pa_nil)))), ?_⟩
    have w0 : Wd K E.C_Trade [] [] H H _ [.t n ps, .d (row S), .d (.int a), .u] := Wd.start3 (N := N_may_join) a1 a2 a3
    exact s_retQ w0 q (ev_allK (f := fun x => may ps x a) (l := S) (en_lcT (j := 3) (mk := PyData.int) w0 (ev_var (i := 1) w0 rfl) (fun _ => true) _ (by omega) (fun x _ σ1 H1 w1 => et_yes) (fun x _ σ1 H1 w1 _ => ev_call (ea_cons (ev_var (i := 0) w1 rfl) (ea_cons (ev_var (i := 3) w1 rfl) (ea_cons (ev_var (i := 2) w1 rfl) ea_nil))) ⟨n, ps, x, a, rfl, rfl⟩)))
abbrev A_all_groups (as : List Ag) (ds : List PyData) : Prop := ∃ (n : Nat) (ps : List (Int × Int)), n ≤ 6 ∧ as = [.c (.t n ps)] ∧ ds = ((grL ps n).mergeSort leR).map row
theorem ok_all_groups (E : Nv K mg) : FnOk P w K mg base CX0 14 E.a_all_groups E.d_all_groups ["trade"] (spN K E.C_Trade A_all_groups) := by
  refine E.F_all_groups.ok sc_all_groups (fun vs H Q _ h => ?_) (fun cdv A outer s H vs Q _ hr h => ?_)
  · obtain ⟨as, d, ha, ⟨_, _, _, rfl, _⟩, _⟩ := h
    exact ha.length
  · obtain ⟨as, d, ha, ⟨n, ps, h6, rfl, rfl⟩, q⟩ := h
    obtain ⟨v1, rfl, a1⟩ := ha.one
    refine ⟨_, (pss_cons (ps_set (i := 1) sc_all_groups.nd rfl (.inl rfl) (pe_lst (pa_cons (pe_tupF pa_nil) pa_nil)))
      (pss_cons (ps_for PassesOwn.never rfl (pi_range1 (by rfl) E.n_range (pa_cons (pe_prop (pv 0) E.cl E.p_letters (ok_Trade_letters E) (hr.mono (by first | decide | omega)) E.b_Trade_letters .nil pass0 rfl) pa_nil)) (pg_name (i := 2) sc_all_groups.nd rfl (.inr rfl))
      (pss_one (ps_set (i := 1) sc_all_groups.nd rfl (.inl rfl) (pe_op (op_addK K) (pv 1) (pe_lc (own := [("group", 3)]) (g := gName 3) (by rfl) sc_all_groups.nd (pi_listK K (pv 1)) (blkOk_by (own := [("group", 3)]) (N := N_all_groups) (sc := defScope s_all_groups) (by decide +kernel)) (fun _ _ _ _ _ => (pg_name (i := 3) sc_all_groups.nd rfl (Or.inl rfl))) (fun _ _ _ _ _ => (pts_one (pt_truK K (pe_call (ok_may_join E) (hr.mono (by first | decide | omega)) (by rfl) E.m_may_join E.F_may_join.kp E.b_may_join .nil pass0 (pa_cons (pv 0) (pa_cons (pv 3) (pa_cons (pv 2) pa_nil)))) (fun _ => rfl)))) (fun _ _ _ _ _ => (pe_op (op_addK K) (pv 3) (pe_tupF (pa_cons (pv 2) pa_nil)))))))))
      (pss_one (ps_ret (pe_callB (call_sortTK K hr.units12) (by rfl) E.n_sorted (by decide +kernel) (pa_cons (pv 1) pa_nil)))))), ?_⟩
    have w0 : Wd K E.C_Trade [] [] H H _ [.t n ps, .u, .u, .u] := Wd.start1 (N := N_all_groups) (c1 := .t n ps) a1
    have two : ∀ k, k ≤ 6 → 2 ^ k ≤ 64 := fun k hk => Nat.le_trans (Nat.pow_le_pow_right (by decide) hk) (by decide)
    refine q_asgN w0 (en_lst (ed_cons (ev_d (e := row []) (ev_tup ed_nil) rfl) ed_nil)) fun p σ1 H1 _ w1 => ?_
    have w1' : Wd K E.C_Trade [] [] H H1 σ1 [.t n ps, .l p ((grL ps 0).map row), .u, .u] := w1
    refine q_forR1 w1' (n := (n : Nat)) (ea_cons (ev_letters (ev_var (i := 0) w1' rfl)) ea_nil) (by omega) (fun t σ H' => ∃ p c2 c3, Wd K E.C_Trade [] [] H H' σ [.t n ps, .l p ((grL ps t).map row), c2, c3]) (fun H2 w2 => ⟨_, _, _, w2⟩) ?_ ?_
    · rintro t σ H' ht ⟨p, c2, c3, w2⟩
      have w3 : Wd K E.C_Trade [] [] H H' _ [.t n ps, .l p ((grL ps t).map row), .d (.int (t : Nat)), c3] := w2.set 2 (v := .int (t : Nat)) (c := .d (.int (t : Nat))) (.int _)
      have l1 := Nat.le_trans (gr_len ps t) (two t (by omega))
      have l2 : (kept (fun S => joins ps S (t : Nat)) (fun S => row (S ++ [((t : Nat) : Int)])) (grL ps t)).length ≤ 64 := by
        unfold kept
        rw [List.length_map]
        exact Nat.le_trans (List.length_filter_le _ _) l1
      refine s_asgN w3 (en_cast (es := (grL ps (t + 1)).map row) (en_addL (ev_var (i := 1) w3 rfl) (en_lcS (j := 3) (l := grL ps t) (mk := row) w3 (ev_lend (ev_var (i := 1) w3 rfl)) (fun S => joins ps S (t : Nat)) (fun S => row (S ++ [((t : Nat) : Int)])) (by omega) (fun S hS σ6 H6 w6 => et_truB (ev_call (ea_cons (ev_var (i := 0) w6 rfl) (ea_cons (ev_var (i := 3) w6 rfl) (ea_cons (ev_var (i := 2) w6 rfl) ea_nil))) ⟨n, ps, S, _, by have := gr_size ps t S hS; omega, rfl, rfl⟩)) (fun S hS σ6 H6 w6 _ => ev_d (ev_addT (ev_var (i := 3) w6 rfl) (ev_tup (ed_cons (ev_var (i := 2) w6 rfl) ed_nil)) (by have := gr_size ps t S hS; rw [iL_len]; simp; omega)) (by rw [row, iL_app]; rfl))) (by rw [List.length_map]; omega)) ?_) fun p' σ6 H6 _ w6 => ⟨p', _, _, w6⟩
      unfold kept
      conv => rhs; unfold grL
      rw [List.map_append, List.map_map]
      rfl
    · rintro σ H' ⟨p, c2, c3, w2⟩
      rw [Int.toNat_natCast] at w2
      exact s_retNQ w2 q (en_cast (en_sortTL (ev_var (i := 1) w2 rfl) (rows_alike _) (rows_tupx _) (rows_dep8x _)) (sortedD_rows _))
abbrev A_groups (as : List Ag) (ds : List PyData) : Prop := A_all_groups as ds
theorem ok_groups (E : Nv K mg) : FnOk P w K mg base CX0 18 E.a_groups E.d_groups ["trade"] (spN K E.C_Trade A_groups) := by
  refine E.F_groups.ok sc_groups (fun vs H Q _ h => ?_) (fun cdv A outer s H vs Q _ hr h => ?_)
  · obtain ⟨as, d, ha, ⟨_, _, _, rfl, _⟩, _⟩ := h
    exact ha.length
  · obtain ⟨as, d, ha, ⟨n, ps, h6, rfl, rfl⟩, q⟩ := h
    obtain ⟨v1, rfl, a1⟩ := ha.one
    refine ⟨_, (pss_cons (ps_expr (pe_call (ok_check_trade E) (hr.mono (by first | decide | omega)) (by rfl) E.m_check_trade E.F_check_trade.kp E.b_check_trade .nil pass0 (pa_cons (pv 0) pa_nil)))
      (pss_one (ps_ret (pe_call (ok_all_groups E) (hr.mono (by first | decide | omega)) (by rfl) E.m_all_groups E.F_all_groups.kp E.b_all_groups .nil pass0 (pa_cons (pv 0) pa_nil))))), ?_⟩
    have w0 : Wd K E.C_Trade [] [] H H _ [.t n ps] := Wd.start1 (N := N_groups) (c1 := .t n ps) a1
    refine q_drop w0 (ev_call (ea_cons (ev_var (i := 0) w0 rfl) ea_nil) ⟨_, _, rfl, rfl⟩) fun H1 w1 => ?_
    exact s_retNQ w1 q (en_call (ea_cons (ev_var (i := 0) w1 rfl) ea_nil) ⟨n, ps, h6, rfl, rfl⟩)
end
end K1
namespace K1
open PySem PySem.Spec PyProof.Rows L2 Pt
def nxS (ps : List (Int × Int)) (s : Int → Bool) (a : Int) : Int → Bool := fun b => (s b || decide (b < a)) && may ps a b
def acc (ps : List (Int × Int)) : (Int → Bool) → List Int → Bool
  | _, [] => true
  | s, a :: t => !s a && acc ps (nxS ps s a) t
def Back (ps : List (Int × Int)) (s : Int → Bool) (x : List Int) (b : Int) : Prop :=
  (s b = true ∧ ∀ y ∈ x, may ps y b = true) ∨ ∃ p c q, x = p ++ c :: q ∧ b < c ∧ may ps c b = true ∧ ∀ y ∈ q, may ps y b = true
theorem back_nil {ps : List (Int × Int)} {s : Int → Bool} {b : Int} : Back ps s [] b ↔ s b = true := by
  constructor
  · rintro (⟨h, _⟩ | ⟨p, c, q, h, _⟩)
    · exact h
    · simp at h
  · exact fun h => .inl ⟨h, fun y hy => by cases hy⟩
theorem back_cons {ps : List (Int × Int)} {s : Int → Bool} {a b : Int} {x : List Int} : Back ps s (a :: x) b ↔ Back ps (nxS ps s a) x b := by
  constructor
  · rintro (⟨h, g⟩ | ⟨p, c, q, h, h1, h2, h3⟩)
    · refine .inl ⟨?_, fun y hy => g y (List.mem_cons_of_mem _ hy)⟩
      unfold nxS
      rw [h, g a List.mem_cons_self]
      rfl
    · cases p with
      | nil =>
        obtain ⟨rfl, rfl⟩ := List.cons.inj h
        refine .inl ⟨?_, h3⟩
        unfold nxS
        rw [decide_eq_true h1, h2, Bool.or_true]
        rfl
      | cons a' p =>
        obtain ⟨rfl, rfl⟩ := List.cons.inj h
        exact .inr ⟨p, c, q, rfl, h1, h2, h3⟩
  · rintro (⟨h, g⟩ | ⟨p, c, q, rfl, h1, h2, h3⟩)
    · unfold nxS at h
      rw [Bool.and_eq_true, Bool.or_eq_true] at h
      rcases h.1 with z | z
      · exact .inl ⟨z, fun y hy => by
          rcases List.mem_cons.mp hy with rfl | hy
          · exact h.2
          · exact g y hy⟩
      · exact .inr ⟨[], a, x, rfl, of_decide_eq_true z, h.2, g⟩
    · exact .inr ⟨a :: p, c, q, rfl, h1, h2, h3⟩
theorem acc_iff (ps : List (Int × Int)) : ∀ (u : List Int) (s : Int → Bool), acc ps s u = true ↔ ∀ x b z, u = x ++ b :: z → ¬ Back ps s x b
  | [], s => ⟨fun _ x b z h => by simp at h, fun _ => rfl⟩
  | a :: t, s => by
    unfold acc
    rw [Bool.and_eq_true, Bool.not_eq_true', acc_iff ps t (nxS ps s a)]
    constructor
    · rintro ⟨h1, h2⟩ x b z h hb
      cases x with
      | nil =>
        obtain ⟨rfl, rfl⟩ := List.cons.inj h
        rw [back_nil, h1] at hb
        cases hb
      | cons a' x =>
        obtain ⟨rfl, rfl⟩ := List.cons.inj h
        exact h2 x b z rfl (back_cons.mp hb)
    · intro h
      refine ⟨?_, fun x b z e hb => h (a :: x) b z (by rw [e]; rfl) (back_cons.mpr hb)⟩
      cases e : s a with
      | false => rfl
      | true => exact absurd (back_nil.mpr e) (h [] a t rfl)
theorem lt_app {b c : Int} (h : b < c) (r r' : List Int) : ∀ p : List Int, p ++ b :: r < p ++ c :: r'
  | [] => List.cons_lt_cons_iff.mpr (.inl h)
  | x :: p => List.cons_lt_cons_iff.mpr (.inr ⟨rfl, lt_app h r r' p⟩)
theorem differ : ∀ {u v : List Int}, u.length = v.length → u ≠ v → ∃ w a b t t', u = w ++ a :: t ∧ v = w ++ b :: t' ∧ a ≠ b
  | [], [], _, h => absurd rfl h
  | [], _ :: _, h, _ => by simp at h
  | _ :: _, [], h, _ => by simp at h
  | a :: u, b :: v, h, ne => by
    by_cases e : a = b
    · subst e
      obtain ⟨w, x, y, t, t', rfl, rfl, h3⟩ := differ (u := u) (v := v) (by simpa using h) (fun z => ne (by rw [z]))
      exact ⟨a :: w, x, y, t, t', rfl, rfl, h3⟩
    · exact ⟨[], a, b, u, v, rfl, rfl, e⟩
theorem least_iff {n : Int} {ps : List (Int × Int)} (hok : PairsOk n ps) (u : List Int) : leastL ps u = u ↔ acc ps (fun _ => false) u = true := by
  rw [acc_iff]
  constructor
  · rintro h x b z rfl (⟨g, _⟩ | ⟨p, c, q, rfl, h1, h2, h3⟩)
    · cases g
    · have sw : Alike ps ((c :: q) ++ [b]) ([b] ++ (c :: q)) := swap_alike hok fun y hy y' hy' => by
        rw [List.mem_singleton.mp hy']
        rcases List.mem_cons.mp hy with rfl | hy
        · exact h2
        · exact h3 y hy
      have al := (sw.appR hok z).app p
      have e : p ++ (c :: q ++ [b] ++ z) = p ++ c :: q ++ b :: z := by simp
      rw [e] at al
      have le := least_le hok al
      rw [h] at le
      refine le ?_
      have := lt_app h1 ((c :: q) ++ z) (q ++ b :: z) p
      simpa using this
  · intro h
    refine Classical.byContradiction fun ne => ?_
    have al := least_alike ps u
    obtain ⟨w, a, b, t, t', e1, e2, ne2⟩ := differ (alike_len al) (fun z => ne z.symm)
    have lt : ¬ u < leastL ps u := least_le hok (.refl ps u)
    have hba : b < a := by
      rcases (show a < b ∨ b ≤ a by omega) with z | z
      · refine absurd ?_ lt
        rw [e2, e1]
        conv => lhs; rw [← e1]
        rw [e1]
        exact lt_app z t t' w
      · omega
    have al2 : Alike ps (w ++ a :: t) (w ++ b :: t') := by rw [← e1, ← e2]; exact al
    obtain ⟨p, hp, hp1, hp2, _⟩ := head_first hok (app_cancel hok al2)
    obtain ⟨s1, _⟩ := erase_parts hp
    have hg : (a :: t)[p] = b := by
      rw [← hp1, List.getD_eq_getElem?_getD, List.getElem?_eq_getElem hp]
      rfl
    rw [hg] at s1
    have hp0 : p ≠ 0 := fun z => by
      subst z
      exact ne2 hg
    obtain ⟨k, rfl⟩ := Nat.exists_eq_succ_of_ne_zero hp0
    unfold canFirst at hp2
    rw [hp1] at hp2
    have hall := List.all_eq_true.mp hp2
    rw [List.take_succ_cons] at s1 hall
    refine h (w ++ a :: t.take k) b ((a :: t).drop (k + 1 + 1)) ?_ (.inr ⟨w, a, t.take k, rfl, hba, hall a List.mem_cons_self, fun y hy => hall y (List.mem_cons_of_mem _ hy)⟩)
    rw [e1, List.append_assoc]
    conv => lhs; rw [s1]
theorem sub_and_bit : ∀ (j x y : Nat), (x - (x &&& y)).testBit j = (x.testBit j && !y.testBit j)
  | 0, x, y => by
    have le : x &&& y ≤ x := Nat.and_le_left
    have h0 : (x &&& y).testBit 0 = (x.testBit 0 && y.testBit 0) := Nat.testBit_and x y 0
    rw [Nat.testBit_zero, Nat.testBit_zero, Nat.testBit_zero] at *
    have a1 : x % 2 = 0 ∨ x % 2 = 1 := by omega
    have a2 : y % 2 = 0 ∨ y % 2 = 1 := by omega
    have a3 : (x &&& y) % 2 = 0 ∨ (x &&& y) % 2 = 1 := by omega
    rcases a1 with a1 | a1 <;> rcases a2 with a2 | a2 <;> rcases a3 with a3 | a3 <;> simp [a1, a2, a3] at h0 ⊢ <;> omega
  | j + 1, x, y => by
    have le : x &&& y ≤ x := Nat.and_le_left
    have h0 : (x &&& y).testBit 0 = (x.testBit 0 && y.testBit 0) := Nat.testBit_and x y 0
    rw [Nat.testBit_zero, Nat.testBit_zero, Nat.testBit_zero] at h0
    have hd : (x &&& y) / 2 = x / 2 &&& y / 2 := Nat.and_div_two
    have hb : (x &&& y) % 2 ≤ x % 2 := by
      have a1 : x % 2 = 0 ∨ x % 2 = 1 := by omega
      have a3 : (x &&& y) % 2 = 0 ∨ (x &&& y) % 2 = 1 := by omega
      rcases a1 with a1 | a1 <;> rcases a3 with a3 | a3 <;> simp [a1, a3] at h0 ⊢
    rw [Nat.testBit_succ, Nat.testBit_succ, Nat.testBit_succ, ← sub_and_bit j (x / 2) (y / 2), ← hd]
    congr 1
    omega
def nxN (n : Nat) (ps : List (Int × Int)) (s a : Nat) : Nat := (s ||| (2 ^ a - 1)) - ((s ||| (2 ^ a - 1)) &&& barN ps (a : Nat) n)
theorem nx_bit {n : Nat} {ps : List (Int × Int)} {s a b : Nat} (hb : b < n) : (nxN n ps s a).testBit b = ((s.testBit b || decide (b < a)) && may ps (a : Nat) (b : Nat)) := by
  unfold nxN
  rw [sub_and_bit, Nat.testBit_or, Nat.testBit_two_pow_sub_one, barN_bit, decide_eq_true hb, Bool.true_and, Bool.not_not]
def goL (n : Nat) (ps : List (Int × Int)) (s : Nat) : List (Int × Int) := ((List.range n).filter fun a => !s.testBit a).map fun a => (((a : Nat) : Int), ((nxN n ps s a : Nat) : Int))
theorem ways_mem {n : Nat} {ps : List (Int × Int)} {s : Nat} {q : Int × Int} (h : q ∈ goL n ps s) : ∃ a : Nat, a < n ∧ s.testBit a = false ∧ q = ((a : Int), ((nxN n ps s a : Nat) : Int)) := by
  unfold goL at h
  obtain ⟨a, ha, rfl⟩ := List.mem_map.mp h
  obtain ⟨h1, h2⟩ := List.mem_filter.mp ha
  exact ⟨a, List.mem_range.mp h1, by simpa using h2, rfl⟩
theorem ways_strict (n : Nat) (ps : List (Int × Int)) (s : Nat) : (goL n ps s).Pairwise fun p q => p.1 < q.1 := by
  unfold goL
  rw [List.pairwise_map]
  exact (List.pairwise_lt_range.filter _).imp fun h => by
    show ((_ : Nat) : Int) < ((_ : Nat) : Int)
    omega
theorem ways_len (n : Nat) (ps : List (Int × Int)) (s : Nat) : (goL n ps s).length ≤ n := by
  unfold goL
  rw [List.length_map]
  exact Nat.le_trans (List.length_filter_le _ _) (by rw [List.length_range]; exact Nat.le_refl _)
def enL (n : Nat) (ps : List (Int × Int)) : Nat → Nat → List (List Int)
  | 0, _ => [[]]
  | k + 1, s => ((goL n ps s).map fun q => (enL n ps k q.2.toNat).map (q.1 :: ·)).flatten
def cnL (n : Nat) (ps : List (Int × Int)) : Nat → Nat → Nat
  | 0, _ => 1
  | k + 1, s => ((goL n ps s).map fun q => cnL n ps k q.2.toNat).sum
theorem en_len (n : Nat) (ps : List (Int × Int)) : ∀ k s, (enL n ps k s).length = cnL n ps k s
  | 0, _ => rfl
  | k + 1, s => by
    unfold enL cnL
    rw [List.length_flatten, List.map_map]
    congr 1
    refine List.map_congr_left fun q _ => ?_
    show ((enL n ps k q.2.toNat).map (q.1 :: ·)).length = _
    rw [List.length_map, en_len n ps k]
theorem cn_le {n : Nat} (h6 : n ≤ 8) (ps : List (Int × Int)) : ∀ k s, cnL n ps k s ≤ 2 ^ (3 * k)
  | 0, _ => Nat.le_refl _
  | k + 1, s => by
    unfold cnL
    have key : ∀ L : List (Int × Int), (L.map fun q => cnL n ps k q.2.toNat).sum ≤ L.length * 2 ^ (3 * k) := fun L => by
      induction L with
      | nil => simp
      | cons q L ih =>
        rw [List.map_cons, List.sum_cons, List.length_cons, Nat.add_mul]
        have := cn_le h6 ps k q.2.toNat
        omega
    refine Nat.le_trans (key _) ?_
    rw [show 3 * (k + 1) = 3 + 3 * k by omega, Nat.pow_add]
    exact Nat.mul_le_mul_right _ (Nat.le_trans (ways_len n ps s) h6)
theorem en_mem {n : Nat} {ps : List (Int × Int)} : ∀ (k s : Nat) (f : Int → Bool) (u : List Int), (∀ b : Nat, b < n → s.testBit b = f (b : Nat)) → (u ∈ enL n ps k s ↔ rowIn (n : Nat) u ∧ u.length = k ∧ acc ps f u = true)
  | 0, s, f, u, _ => by
    unfold enL
    rw [List.mem_singleton]
    constructor
    · rintro rfl; exact ⟨fun x hx => (by cases hx), rfl, rfl⟩
    · rintro ⟨_, h, _⟩; exact List.length_eq_zero_iff.mp h
  | k + 1, s, f, u, hs => by
    unfold enL
    rw [List.mem_flatten]
    constructor
    · rintro ⟨L, hL, hu⟩
      obtain ⟨q, hq, rfl⟩ := List.mem_map.mp hL
      obtain ⟨t, ht, rfl⟩ := List.mem_map.mp hu
      obtain ⟨a, ha, hf, rfl⟩ := ways_mem hq
      rw [Int.toNat_natCast] at ht
      obtain ⟨h1, h2, h3⟩ := (en_mem k (nxN n ps s a) (nxS ps f (a : Nat)) t fun b hb => by
        rw [nx_bit hb, hs b hb]
        unfold nxS
        congr 2
        exact decide_eq_decide.mpr (by omega)).mp ht
      refine ⟨fun x hx => ?_, by rw [List.length_cons, h2], ?_⟩
      · rcases List.mem_cons.mp hx with rfl | hx
        · exact ⟨by omega, by omega⟩
        · exact h1 x hx
      · unfold acc
        rw [← hs a ha, hf, h3]
        rfl
    · rintro ⟨h1, h2, h3⟩
      cases u with
      | nil => cases h2
      | cons x t =>
        have hx := h1 x List.mem_cons_self
        obtain ⟨a, rfl⟩ : ∃ a : Nat, x = (a : Nat) := ⟨x.toNat, by omega⟩
        have ha : a < n := by omega
        unfold acc at h3
        rw [Bool.and_eq_true, Bool.not_eq_true', ← hs a ha] at h3
        refine ⟨_, List.mem_map.mpr ⟨((a : Int), ((nxN n ps s a : Nat) : Int)), List.mem_map.mpr ⟨a, List.mem_filter.mpr ⟨List.mem_range.mpr ha, by simp [h3.1]⟩, rfl⟩, rfl⟩, List.mem_map.mpr ⟨t, ?_, rfl⟩⟩
        rw [Int.toNat_natCast]
        exact (en_mem k (nxN n ps s a) (nxS ps f (a : Nat)) t fun b hb => by
          rw [nx_bit hb, hs b hb]
          unfold nxS
          congr 2
          exact decide_eq_decide.mpr (by omega)).mpr ⟨fun y hy => h1 y (List.mem_cons_of_mem _ hy), by simpa using h2, h3.2⟩
theorem en_sorted (n : Nat) (ps : List (Int × Int)) : ∀ k s, (enL n ps k s).Pairwise (· < ·)
  | 0, _ => by unfold enL; simp
  | k + 1, s => by
    unfold enL
    rw [List.pairwise_flatten]
    refine ⟨fun L hL => ?_, ?_⟩
    · obtain ⟨q, hq, rfl⟩ := List.mem_map.mp hL
      rw [List.pairwise_map]
      exact (en_sorted n ps k q.2.toNat).imp fun h => List.cons_lt_cons_iff.mpr (.inr ⟨rfl, h⟩)
    · rw [List.pairwise_map]
      refine (ways_strict n ps s).imp fun {p q} h x hx y hy => ?_
      obtain ⟨x, _, rfl⟩ := List.mem_map.mp hx
      obtain ⟨y, _, rfl⟩ := List.mem_map.mp hy
      exact List.cons_lt_cons_iff.mpr (.inl h)
theorem irrL (a : List Int) : ¬ a < a := List.lt_irrefl a
theorem en_nodup (n : Nat) (ps : List (Int × Int)) (k s : Nat) : (enL n ps k s).Nodup := (en_sorted n ps k s).imp fun {a b} h e => by subst e; exact irrL _ h
theorem en_lrows {n : Nat} {ps : List (Int × Int)} (hok : PairsOk (n : Nat) ps) (k : Nat) : LRows (n : Nat) ps k (enL n ps k 0) := ⟨en_nodup n ps k 0, fun u => by
  rw [en_mem k 0 (fun _ => false) u fun b _ => Nat.zero_testBit b, least_iff hok]⟩
end K1
set_option maxRecDepth 10000000
namespace K1
open PySem PySem.Spec PyProof.Rows L2 Pt
local macro_rules
  | `(tactic| walk_at "sz") => `(tactic| first
    | omega
    | decide
    | (simp; omega)
    | (simp [iL, row, pairsD]; omega))
  | `(tactic| walk_at "ea") => `(tactic| first
    | (with_reducible exact ea_nil)
    | ((with_reducible apply ea_consL); (focus (walk_at "ev")); (focus (walk_at "ea")))
    | ((with_reducible apply ea_consS); (focus (walk_at "ev")); (focus (walk_at "ea")))
    | ((with_reducible apply ea_cons); (focus (walk_at "ev")); (focus (walk_at "ea")))
    | ((with_reducible apply ea_consN); (focus (walk_at "en")); (focus (walk_at "ea"))))
  | `(tactic| walk_at "ed") => `(tactic| first
    | (with_reducible exact ed_nil)
    | ((with_reducible apply ed_cons); (focus (walk_at "ev")); (focus (walk_at "ed"))))
  | `(tactic| walk_at "en") => `(tactic| first
    | ((with_reducible apply en_lst); (focus (walk_at "ed")); (focus (simp)))
    | ((with_reducible apply en_listT); (focus (walk_at "ev")))
    | ((with_reducible apply en_addL); (focus (walk_at "ev")); (focus (walk_at "en")); (focus (walk_at "sz")))
    | ((with_reducible apply en_addN); (focus (walk_at "en")); (focus (walk_at "en")); (focus (walk_at "sz")))
    | ((with_reducible apply en_slL); (focus (walk_at "ev")); (focus (walk_at "eo")); (focus (walk_at "eo"))))
  | `(tactic| walk_at "eo") => `(tactic| first
    | (with_reducible exact eo_none)
    | ((with_reducible apply eo_some); (focus (walk_at "ev"))))
  | `(tactic| walk_at "et") => `(tactic| first
    | (with_reducible exact et_yes)
    | ((with_reducible apply et_test); (focus (walk_at "ev")))
    | ((with_reducible apply et_B); (focus (walk_at "ev")))
    | ((with_reducible apply et_truB); (focus (walk_at "ev")))
    | ((with_reducible apply et_truT); (focus (walk_at "ev")))
    | ((with_reducible apply et_not); (focus (walk_at "et")))
    | ((with_reducible apply et_and); (focus (walk_at "et")); (focus (intro _; walk_at "et")))
    | ((with_reducible apply et_or); (focus (walk_at "et")); (focus (intro _; walk_at "et"))))
  | `(tactic| walk_at "var") => `(tactic| first
    | ((with_reducible apply ev_varD); (focus (assumption)); (focus (rfl)))
    | ((with_reducible apply ev_varL); (focus (assumption)); (focus (rfl)))
    | ((with_reducible apply ev_varS); (focus (assumption)); (focus (rfl)))
    | ((with_reducible apply ev_varT); (focus (assumption)); (focus (rfl)))
    | ((with_reducible apply ev_varH); (focus (assumption)); (focus (rfl)))
    | ((with_reducible apply ev_varZ); (focus (assumption)); (focus (rfl))))
  | `(tactic| walk_at "ev") => `(tactic| first
    | walk_at "var"
    | (with_reducible exact ev_int)
    | (with_reducible exact ev_bl)
    | (with_reducible exact ev_str)
    | (with_reducible exact ev_non)
    | ((with_reducible apply ev_letters); (focus (walk_at "ev")))
    | ((with_reducible apply ev_pairs); (focus (walk_at "ev")))
    | ((with_reducible apply ev_addI); (focus (walk_at "ev")); (focus (walk_at "ev")))
    | ((with_reducible apply ev_addT); (focus (walk_at "ev")); (focus (walk_at "ev")); (focus (walk_at "sz")))
    | ((with_reducible apply ev_i0); (focus (walk_at "ev")); (focus (walk_at "ev")); (focus (first | exact fun _ => .int _ | exact fun _ => .bl _)))
    | ((with_reducible apply ev_iC); (focus (walk_at "ev")); (focus (walk_at "ev")); (focus (first | assumption | walk_at "cond")); (focus (exact fun _ => .int _)))
    | ((with_reducible apply ev_chain); (focus (walk_at "ev")); (focus (walk_at "ev")); (focus (walk_at "ev")))
    | ((with_reducible apply ev_eqI); (focus (walk_at "ev")); (focus (walk_at "ev")))
    | ((with_reducible apply ev_neI); (focus (walk_at "ev")); (focus (walk_at "ev")))
    | ((with_reducible apply ev_eqR); (focus (walk_at "ev")); (focus (walk_at "ev")))
    | ((with_reducible apply ev_neR); (focus (walk_at "ev")); (focus (walk_at "ev")))
    | ((with_reducible apply ev_isN); (focus (walk_at "ev")))
    | ((with_reducible apply ev_notN); (focus (walk_at "ev")))
    | ((with_reducible apply ev_in2); (focus (walk_at "ev")); (focus (walk_at "ev")); (focus (walk_at "ev")))
    | ((with_reducible apply ev_inP); (focus (walk_at "ev")); (focus (walk_at "ev")))
    | ((with_reducible apply ev_tup); (focus (walk_at "ed")); (focus (simp)))
    | ((with_reducible apply ev_lenT); (focus (walk_at "ev")))
    | ((with_reducible apply ev_lenL); (focus (walk_at "ev")))
    | ((with_reducible apply ev_lenS); (focus (walk_at "ev")))
    | ((with_reducible apply ev_lenN); (focus (walk_at "en")))
    | ((with_reducible apply ev_max2); (focus (walk_at "ev")); (focus (walk_at "ev")))
    | ((with_reducible apply ev_min2); (focus (walk_at "ev")); (focus (walk_at "ev")))
    | ((with_reducible apply ev_int1); (focus (walk_at "ev")))
    | ((with_reducible apply ev_tupleL); (focus (walk_at "ev")))
    | ((with_reducible apply ev_tupleN); (focus (walk_at "en")))
    | ((with_reducible apply ev_countT); (focus (walk_at "ev")); (focus (walk_at "ev")))
    | ((with_reducible apply ev_andV); (focus (walk_at "ev")); (focus (intro _; walk_at "ev")))
    | ((with_reducible apply ev_orV); (focus (walk_at "ev")); (focus (intro _; walk_at "ev")))
    | ((with_reducible apply ev_notV); (focus (walk_at "ev"))))
def cS (G : List (List Int)) (j : Nat) : Int := ((G.filter fun S => decide (S.length = j)).map sg).sum
theorem cS_cons (S : List Int) (G : List (List Int)) (j : Nat) : cS (S :: G) j = (if S.length = j then sg S else 0) + cS G j := by
  unfold cS
  by_cases h : S.length = j
  · rw [if_pos h, List.filter_cons_of_pos (by simpa using h), List.map_cons, List.sum_cons]
  · rw [if_neg h, List.filter_cons_of_neg (by simpa using h)]
    omega
theorem cS_perm {G G' : List (List Int)} (p : G.Perm G') (j : Nat) : cS G j = cS G' j := sum_perm ((p.filter _).map sg)
theorem cS_snoc (G : List (List Int)) (S : List Int) (j : Nat) : cS (G ++ [S]) j = cS G j + if S.length = j then sg S else 0 := by
  rw [cS_perm (List.perm_append_comm (l₁ := G) (l₂ := [S])) j]
  show cS (S :: G) j = _
  rw [cS_cons]
  omega
theorem sg_abs (S : List Int) : (sg S).natAbs = 1 := by
  unfold sg
  split <;> rfl
theorem cS_abs (j : Nat) : ∀ G : List (List Int), (cS G j).natAbs ≤ G.length
  | [] => Nat.le_refl _
  | S :: G => by
    rw [cS_cons, List.length_cons]
    have h1 := cS_abs j G
    have h2 := sg_abs S
    have h3 := Int.natAbs_add_le (if S.length = j then sg S else 0) (cS G j)
    split at h3 <;> rename_i h
    · rw [if_pos h]; omega
    · rw [if_neg h]
      have : ((0 : Int)).natAbs = 0 := rfl
      omega
theorem one_term (f : Nat → Int) (x : Int) (a : Nat) : ∀ m : Nat, a < m → ((List.range m).map fun j => (if a = j then x else 0) * f j).sum = x * f a
  | 0, h => absurd h (Nat.not_lt_zero _)
  | m + 1, h => by
    rw [List.range_succ, List.map_append, sum_app]
    by_cases e : a = m
    · subst e
      have z : ((List.range a).map fun j => (if a = j then x else 0) * f j).sum = 0 := by
        have : ((List.range a).map fun j => (if a = j then x else 0) * f j).sum = ((List.range a).map fun _ => (0 : Int)).sum := sum_congr fun j hj => by
          have := List.mem_range.mp hj
          rw [if_neg (by omega), Int.zero_mul]
        rw [this]
        have : ∀ l : List Nat, (l.map fun _ => (0 : Int)).sum = 0 := fun l => by
          induction l with
          | nil => rfl
          | cons a l ih => rw [List.map_cons, List.sum_cons, ih]; rfl
        exact this _
      rw [z]
      simp
    · rw [one_term f x a m (by omega)]
      simp [e]
theorem by_size (f : Nat → Int) (m : Nat) : ∀ G : List (List Int), (∀ S ∈ G, S.length < m) → (G.map fun S => sg S * f S.length).sum = ((List.range m).map fun j => cS G j * f j).sum
  | [], _ => by
    have : ∀ l : List Nat, (l.map fun j => cS [] j * f j).sum = 0 := fun l => by
      induction l with
      | nil => rfl
      | cons a l ih => rw [List.map_cons, List.sum_cons, ih]; show (0 : Int) * f a + 0 = 0; simp
    rw [this]
    rfl
  | S :: G, h => by
    rw [List.map_cons, List.sum_cons, by_size f m G fun T hT => h T (List.mem_cons_of_mem _ hT)]
    have e : ((List.range m).map fun j => cS (S :: G) j * f j).sum = ((List.range m).map fun j => (if S.length = j then sg S else 0) * f j + cS G j * f j).sum := sum_congr fun j _ => by rw [cS_cons, Int.add_mul]
    rw [e, map_sum_add, one_term f (sg S) S.length m (h S List.mem_cons_self)]
theorem cS_zero {n : Int} {ps : List (Int × Int)} {G : List (List Int)} (h : Groups n ps G) : cS G 0 = 1 := by
  have e : (G.filter fun S => decide (S.length = 0)).Perm [[]] := (List.perm_ext_iff_of_nodup (h.nd.filter _) (by simp)).mpr fun S => by
    rw [List.mem_filter, List.mem_singleton, decide_eq_true_eq, List.length_eq_zero_iff]
    constructor
    · exact fun h => h.2
    · rintro rfl
      exact ⟨(h.mem []).mpr ⟨fun x hx => (by cases hx), List.Pairwise.nil, fun a ha => (by cases ha)⟩, rfl⟩
  unfold cS
  rw [sum_perm (e.map sg)]
  rfl
def sumS' (n : Nat) (ps : List (Int × Int)) (k t : Nat) : Int := ((List.range t).map fun i => cS (grL ps n) (i + 1) * ((cnL n ps (k - (i + 1)) 0 : Nat) : Int)).sum
theorem sumS'_succ (n : Nat) (ps : List (Int × Int)) (k t : Nat) : sumS' n ps k (t + 1) = sumS' n ps k t + cS (grL ps n) (t + 1) * ((cnL n ps (k - (t + 1)) 0 : Nat) : Int) := by
  unfold sumS'
  rw [List.range_succ, List.map_append, sum_app]
  simp
theorem sum_cut (f : Nat → Int) (m : Nat) : ∀ n : Nat, m ≤ n → (∀ i, m ≤ i → f i = 0) → ((List.range n).map f).sum = ((List.range m).map f).sum
  | 0, h, _ => by rw [Nat.le_zero.mp h]
  | n + 1, h, hf => by
    by_cases e : m = n + 1
    · rw [e]
    · rw [List.range_succ, List.map_append, sum_app, sum_cut f m n (by omega) hf]
      have := hf n (by omega)
      simp [this]
theorem cn_rule {n : Nat} {ps : List (Int × Int)} (hok : PairsOk (n : Nat) ps) {k : Nat} (hk : 0 < k) : ((cnL n ps k 0 : Nat) : Int) = - sumS' n ps k (min k n) := by
  have hG := gr_groups (n := (n : Nat)) (ps := ps) n
  have r := rows_rule hok hG (U := fun k => enL n ps k 0) (fun k => en_lrows hok k) hk
  have e1 : ((grL ps n).map fun S => sg S * (if S.length ≤ k then (((enL n ps (k - S.length) 0).length : Nat) : Int) else 0)).sum = ((grL ps n).map fun S => sg S * (fun j => if j ≤ k then ((cnL n ps (k - j) 0 : Nat) : Int) else 0) S.length).sum := sum_congr fun S _ => by
    show _ = sg S * (if S.length ≤ k then ((cnL n ps (k - S.length) 0 : Nat) : Int) else 0)
    rw [en_len]
  rw [e1, by_size (fun j => if j ≤ k then ((cnL n ps (k - j) 0 : Nat) : Int) else 0) (n + 1) _ fun S hS => Nat.lt_succ_of_le (gr_size ps n S hS), List.range_succ_eq_map, List.map_cons, List.sum_cons, List.map_map, cS_zero hG] at r
  have e2 : ((List.range n).map ((fun j => cS (grL ps n) j * (if j ≤ k then ((cnL n ps (k - j) 0 : Nat) : Int) else 0)) ∘ Nat.succ)).sum = sumS' n ps k (min k n) := by
    rw [sum_cut _ (min k n) n (Nat.min_le_right _ _) fun i hi => ?_]
    · unfold sumS'
      refine sum_congr fun i hi => ?_
      have := List.mem_range.mp hi
      show cS (grL ps n) (i + 1) * (if i + 1 ≤ k then _ else 0) = _
      rw [if_pos (by omega)]
    · show cS (grL ps n) (i + 1) * (if i + 1 ≤ k then _ else 0) = 0
      by_cases hik : i + 1 ≤ k
      · have hin : n ≤ i := by omega
        have z : cS (grL ps n) (i + 1) = 0 := by
          unfold cS
          rw [List.filter_eq_nil_iff.mpr fun S hS => by have := gr_size ps n S hS; simp; omega]
          rfl
        rw [z, Int.zero_mul]
      · rw [if_neg hik, Int.mul_zero]
  rw [e2] at r
  simp at r
  omega
section
variable {P : Program} {w : World} {K : PySem.W.Frag} {mg : Str → Option Value} {base : Heap}
abbrev A_sign (as : List Ag) (d : PyData) : Prop := ∃ (k : Nat), as = [.c (.d (.int (k : Nat)))] ∧ d = .int (if k % 2 = 0 then 1 else -1)
theorem ok_sign (E : Nv K mg) : FnOk P w K mg base CX0 4 E.a_sign E.d_sign ["number"] (spC K E.C_Trade A_sign) := by
  refine E.F_sign.ok sc_sign (fun vs H Q _ h => ?_) (fun cdv A outer s H vs Q _ hr h => ?_)
  · obtain ⟨as, d, ha, ⟨_, rfl, _⟩, _⟩ := h
    exact ha.length
  · obtain ⟨as, d, ha, ⟨k, rfl, rfl⟩, q⟩ := h
    obtain ⟨v1, rfl, a1⟩ := ha.one
    refine ⟨_, (pss_cons (ps_if (pt_cmpR (op_eqK K hr.units) (pe_op op_mod (pv 0) pe_int) pe_int (nomark _)) (pss_one (ps_ret pe_int)) pss_nil)
      (pss_one (ps_ret (pe_un un_neg pe_int)))), ?_⟩
    have w0 : Wd K E.C_Trade [] [] H H _ [.d (.int (k : Nat))] := Wd.start1 (N := N_sign) (c1 := .d (.int (k : Nat))) a1
    refine s_when w0 (b := decide (((k : Nat) : Int) % 2 = 0)) (et_test (ev_eqI (ev_iC (d := .int (((k : Nat) : Int) % 2)) (ev_var (i := 0) w0 rfl) ev_int (by decide) (fun _ => .int _)) ev_int)) (fun e H1 w1 => ?_) (fun e H1 w1 => ?_)
    · have := of_decide_eq_true e
      exact s_retQ w1 q (ev_d ev_int (by rw [if_pos (by omega)]))
    · have := of_decide_eq_false e
      exact s_retQ w1 q (ev_d (ev_neg ev_int) (by rw [if_neg (by omega)]))
def scL (n : Nat) (ps : List (Int × Int)) : List Int := (List.range (n + 1)).map (cS (grL ps n))
theorem scL_at {n : Nat} {ps : List (Int × Int)} {j : Nat} (h : j ≤ n) : (iL (scL n ps))[j]? = some (.int (cS (grL ps n) j)) := by
  rw [iL_get]
  unfold scL
  rw [List.getElem?_map, List.getElem?_range (by omega)]
  rfl
theorem set_map (f g : Nat → Int) (m a : Nat) (h : ∀ j, g j = if a = j then f j + (g a - f a) else f j) : (iL ((List.range m).map f)).set a (.int (g a)) = iL ((List.range m).map g) := by
  refine List.ext_getElem? fun i => ?_
  rw [List.getElem?_set, iL_get, iL_get, List.getElem?_map, List.getElem?_map, iL_len, List.length_map, List.length_range]
  by_cases hi : i < m
  · rw [List.getElem?_range hi]
    by_cases e : a = i
    · subst e
      rw [if_pos rfl, if_pos hi]
      rfl
    · rw [if_neg e]
      have := h i
      rw [if_neg e] at this
      simp [this]
  · rw [List.getElem?_eq_none (l := List.range m) (by rw [List.length_range]; omega)]
    by_cases e : a = i
    · subst e
      rw [if_pos rfl, if_neg hi]
      rfl
    · rw [if_neg e]
      rfl
abbrev A_signed_counts (as : List Ag) (ds : List PyData) : Prop := ∃ (n : Nat) (ps : List (Int × Int)), n ≤ 6 ∧ as = [.c (.t n ps)] ∧ ds = iL (scL n ps)
theorem ok_signed_counts (E : Nv K mg) : FnOk P w K mg base CX0 20 E.a_signed_counts E.d_signed_counts ["trade"] (spN K E.C_Trade A_signed_counts) := by
  refine E.F_signed_counts.ok sc_signed_counts (fun vs H Q _ h => ?_) (fun cdv A outer s H vs Q _ hr h => ?_)
  · obtain ⟨as, d, ha, ⟨_, _, _, rfl, _⟩, _⟩ := h
    exact ha.length
  · obtain ⟨as, d, ha, ⟨n, ps, h6, rfl, rfl⟩, q⟩ := h
    obtain ⟨v1, rfl, a1⟩ := ha.one
    refine ⟨_, (pss_cons (ps_set (i := 1) sc_signed_counts.nd rfl (.inl rfl) (pe_op op_rep (pe_lst (pa_cons pe_int pa_nil)) (pe_op (op_addK K) (pe_prop (pv 0) E.cl E.p_letters (ok_Trade_letters E) (hr.mono (by first | decide | omega)) E.b_Trade_letters .nil pass0 rfl) pe_int)))
      (pss_cons (ps_for PassesOwn.never rfl (pi_listK K (pe_call (ok_all_groups E) (hr.mono (by first | decide | omega)) (by rfl) E.m_all_groups E.F_all_groups.kp E.b_all_groups .nil pass0 (pa_cons (pv 0) pa_nil))) (pg_name (i := 2) sc_signed_counts.nd rfl (.inl rfl))
      (pss_one (ps_augS (pv 1) (pe_callB (call_lenK K) (by rfl) E.n_len (by decide +kernel) (pa_cons (pv 2) pa_nil)) (pget_listK K) (pe_call (ok_sign E) (hr.mono (by first | decide | omega)) (by rfl) E.m_sign E.F_sign.kp E.b_sign .nil pass0 (pa_cons (pe_callB (call_lenK K) (by rfl) E.n_len (by decide +kernel) (pa_cons (pv 2) pa_nil)) pa_nil)) ip_add set_list)))
      (pss_one (ps_ret (pv 1))))), ?_⟩
    have w0 : Wd K E.C_Trade [] [] H H _ [.t n ps, .u, .u] := Wd.start1 (N := N_signed_counts) (c1 := .t n ps) a1
    refine q_asgN w0 (en_cast (es := iL ((List.range (n + 1)).map fun j => cS [] j)) (en_repL (k := (n : Int) + 1) (en_lst (ds := iL [0]) (ed_cons ev_int ed_nil) (Nat.le_of_ble_eq_true rfl)) (ev_addI (ev_letters (ev_var (i := 0) w0 rfl)) ev_int) (by omega) (by omega) (Nat.le_of_ble_eq_true rfl)) ?_) fun p σ1 H1 _ w1 => ?_
    · have : ∀ m : Nat, (List.replicate m (iL [0])).flatten = iL ((List.range m).map fun j => cS [] j) := fun m => by
        induction m with
        | zero => rfl
        | succ m ih =>
          rw [List.replicate_succ', List.flatten_append, ih, List.range_succ, List.map_append, iL_app]
          rfl
      rw [show ((n : Int) + 1).toNat = n + 1 by omega, this]
    have w1' : Wd K E.C_Trade [] [] H H1 σ1 [.t n ps, .l p (iL ((List.range (n + 1)).map fun j => cS [] j)), .u] := w1
    refine q_forN (l := (grL ps n).mergeSort leR) (mk := row) w1' (en_call (ea_cons (ev_var (i := 0) w1' rfl) ea_nil) ⟨n, ps, h6, rfl, rfl⟩)
      (fun t Γ' => ∃ c2, Γ' = [.t n ps, .l p (iL ((List.range (n + 1)).map fun j => cS (((grL ps n).mergeSort leR).take t) j)), c2]) ⟨_, rfl⟩ ?_ ?_
    · rintro S1 H1' un t ht v' σ' H' Γ' ⟨c2, rfl⟩ w4 t4
      have hm : ((grL ps n).mergeSort leR)[t] ∈ grL ps n := (List.mergeSort_perm _ _).mem_iff.mp (List.getElem_mem ht)
      have htk : ((grL ps n).mergeSort leR).take (t + 1) = ((grL ps n).mergeSort leR).take t ++ [((grL ps n).mergeSort leR)[t]] := List.take_succ_eq_append_getElem ht
      generalize ((grL ps n).mergeSort leR)[t] = S at t4 hm htk
      generalize ((grL ps n).mergeSort leR).take t = T at w4 htk
      refine g_one (i := 2) w4 t4 fun σ5 w5 => ?_
      have w5' : Wd K E.C_Trade S1 [] H1' H' σ5 [.t n ps, .l p (iL ((List.range (n + 1)).map fun j => cS T j)), .d (row S)] := w5
      have hl := gr_size ps n S hm
      have hlen : ∀ {H2 : Hp}, Wd K E.C_Trade S1 [] H1' H2 σ5 [.t n ps, .l p (iL ((List.range (n + 1)).map fun j => cS T j)), .d (row S)] → EvC K E.C_Trade (tCB (Pt.rLen K) (tCons (tVar 2) tNil)) σ5 H2 (.d (.int (S.length : Nat))) := fun w => ev_d (ev_lenT (ev_var (i := 2) w rfl)) (by rw [iL_len])
      refine s_addL (j := S.length) (x0 := cS T S.length) (z := sg S) w5' (i := 1) rfl (hlen w5') ?_ (fun H2 w6 => ev_d (ev_call (ea_cons (hlen w6) ea_nil) ⟨S.length, rfl, rfl⟩) rfl) fun H2 w7 => ⟨_, ⟨.d (row S), rfl⟩, ?_⟩
      · rw [iL_get, List.getElem?_map, List.getElem?_range (by omega)]
        rfl
      · have e : cS T S.length + sg S = cS (T ++ [S]) S.length := by rw [cS_snoc, if_pos rfl]
        rw [htk, ← set_map (fun j => cS T j) (fun j => cS (T ++ [S]) j) (n + 1) S.length (fun j => ?_), ← e]
        · exact w7
        · rw [cS_snoc, cS_snoc, if_pos rfl]
          by_cases z : S.length = j
          · rw [if_pos z, if_pos z]; omega
          · rw [if_neg z, if_neg z]; omega
    · rintro σ' H' Γ' ⟨c2, rfl⟩ w4
      rw [List.take_length] at w4
      have e : ((List.range (n + 1)).map fun j => cS ((grL ps n).mergeSort leR) j) = scL n ps := List.map_congr_left fun j _ => cS_perm (List.mergeSort_perm _ _) j
      rw [e] at w4
      exact s_retLQ w4 q rfl
def foL (n : Nat) (ps : List (Int × Int)) (m : Nat) : List Int := (List.range m).map fun i => ((cnL n ps i 0 : Nat) : Int)
theorem foL_at {n : Nat} {ps : List (Int × Int)} {m i : Nat} (h : i < m) : (iL (foL n ps m))[i]? = some (.int (cnL n ps i 0 : Nat)) := by
  rw [iL_get]
  unfold foL
  rw [List.getElem?_map, List.getElem?_range h]
  rfl
theorem cs_wide {n : Nat} (h6 : n ≤ 6) (ps : List (Int × Int)) (j : Nat) : (cS (grL ps n) j).natAbs < 2 ^ 7 := by
  have h1 := cS_abs j (grL ps n)
  have h2 := gr_len ps n
  have h3 : 2 ^ n ≤ 2 ^ 6 := Nat.pow_le_pow_right (by decide) h6
  have h4 : (2 : Nat) ^ 6 < 2 ^ 7 := by decide
  omega
theorem cn_wide {n : Nat} (h6 : n ≤ 6) (ps : List (Int × Int)) {k : Nat} (hk : k ≤ 500) : (((cnL n ps k 0 : Nat) : Int)).natAbs < 2 ^ 1501 := by
  have h1 := cn_le (n := n) (by omega) ps k 0
  have h2 : 2 ^ (3 * k) < 2 ^ 1501 := Nat.pow_lt_pow_right (by decide) (by omega)
  rw [Int.natAbs_natCast]
  exact Nat.lt_of_le_of_lt h1 h2
abbrev A_how_many (as : List Ag) (d : PyData) : Prop := ∃ (n : Nat) (ps : List (Int × Int)) (k : Nat), PairsOk (n : Nat) ps ∧ n ≤ 6 ∧ k ≤ 500 ∧ as = [.c (.t n ps), .c (.d (.int (k : Nat)))] ∧ d = .int (cnL n ps k 0 : Nat)
theorem ok_how_many (E : Nv K mg) : FnOk P w K mg base CX0 24 E.a_how_many E.d_how_many ["trade", "length"] (spC K E.C_Trade A_how_many) := by
  refine E.F_how_many.ok sc_how_many (fun vs H Q _ h => ?_) (fun cdv A outer s H vs Q _ hr h => ?_)
  · obtain ⟨as, d, ha, ⟨_, _, _, _, _, _, rfl, _⟩, _⟩ := h
    exact ha.length
  · obtain ⟨as, d, ha, ⟨n, ps, k, hok, h6, hk, rfl, rfl⟩, q⟩ := h
    obtain ⟨v1, v2, rfl, a1, a2⟩ := ha.two
    refine ⟨_, (pss_cons (ps_expr (pe_call (ok_check_trade E) (hr.mono (by first | decide | omega)) (by rfl) E.m_check_trade E.F_check_trade.kp E.b_check_trade .nil pass0 (pa_cons (pv 0) pa_nil)))
      (pss_cons (ps_if (pt_not (pt_truK K (pe_call (ok_is_whole E) (hr.mono (by first | decide | omega)) (by rfl) E.m_is_whole E.F_is_whole.kp E.b_is_whole .nil pass0 (pa_cons (pv 1) (pa_cons pe_int (pa_cons (pe_glob (v := .int 500) (by rfl) E.c_MOST_LENGTH ⟨_, rfl⟩) pa_nil)))) (fun _ => rfl))) (pss_one ps_never) pss_nil)
      (pss_cons (ps_set (i := 2) sc_how_many.nd rfl (.inl rfl) (pe_call (ok_signed_counts E) (hr.mono (by first | decide | omega)) (by rfl) E.m_signed_counts E.F_signed_counts.kp E.b_signed_counts .nil pass0 (pa_cons (pv 0) pa_nil)))
      (pss_cons (ps_set (i := 3) sc_how_many.nd rfl (.inl rfl) (pe_lst (pa_cons pe_int pa_nil)))
      (pss_cons (ps_for PassesOwn.never rfl (pi_range2 (by rfl) E.n_range (pa_cons pe_int (pa_cons (pe_op (op_addK K) (pv 1) pe_int) pa_nil))) (pg_name (i := 4) sc_how_many.nd rfl (.inl rfl))
      (pss_cons (ps_set (i := 5) sc_how_many.nd rfl (.inl rfl) pe_int)
      (pss_cons (ps_for PassesOwn.never rfl (pi_range2 (by rfl) E.n_range (pa_cons pe_int (pa_cons (pe_op (op_addK K) (pe_callB (call_min2' rfl) (by rfl) E.n_min (by decide +kernel) (pa_cons (pv 4) (pa_cons (pe_prop (pv 0) E.cl E.p_letters (ok_Trade_letters E) (hr.mono (by first | decide | omega)) E.b_Trade_letters .nil pass0 rfl) pa_nil))) pe_int) pa_nil))) (pg_name (i := 6) sc_how_many.nd rfl (.inl rfl))
      (pss_one (ps_set (i := 5) sc_how_many.nd rfl (.inl rfl) (pe_op op_sub (pv 5) (pe_op op_mulW (pe_ix (ix_K K) (pv 2) (pv 6) (fun _ _ => rfl)) (pe_ix (ix_K K) (pv 3) (pe_op op_sub (pv 4) (pv 6)) (fun _ _ => rfl)))))))
      (pss_one (ps_expr (pe_bm PySem.F.plainAttrs_list PySem.F.slot_list_append PySem.F.type_list_append mt_append (pv 3) (pa_cons (pv 5) pa_nil)))))))
      (pss_one (ps_ret (pe_ix (ix_K K) (pv 3) (pv 1) (fun _ _ => rfl))))))))), ?_⟩
    have w0 : Wd K E.C_Trade [] [] H H _ [.t n ps, .d (.int (k : Nat)), .u, .u, .u, .u, .u] := Wd.start2 (N := N_how_many) (c1 := .t n ps) (c2 := .d (.int (k : Nat))) a1 a2
    refine q_drop w0 (ev_call (ea_cons (ev_var (i := 0) w0 rfl) ea_nil) ⟨_, _, rfl, rfl⟩) fun H1 w1 => ?_
    refine s_when w1 (b := false) (et_cast (et_not (et_truB (ev_call (ea_cons (ev_var (i := 1) w1 rfl) (ea_cons ev_int (ea_cons ev_int ea_nil))) ⟨_, _, _, rfl, rfl⟩))) (by simp [isWhole]; omega)) (fun z => by cases z) (fun _ H2 w2 => ?_)
    refine q_asgN w2 (en_call (ea_cons (ev_var (i := 0) w2 rfl) ea_nil) ⟨n, ps, h6, rfl, rfl⟩) fun pc σ3 H3 _ w3 => ?_
    refine q_asgN w3 (en_lst (ds := iL (foL n ps 1)) (ed_cons ev_int ed_nil) (Nat.le_of_ble_eq_true rfl)) fun pf σ4 H4 _ w4 => ?_
    have w4' : Wd K E.C_Trade [] [] H H4 σ4 [.t n ps, .d (.int (k : Nat)), .l pc (iL (scL n ps)), .l pf (iL (foL n ps 1)), .u, .u, .u] := w4
    refine q_forR2 w4' (lo := 1) (n := (k : Int) + 1) (ea_cons ev_int (ea_cons (ev_addI (ev_var (i := 1) w4' rfl) ev_int) ea_nil)) (by omega) (fun t σ H' => ∃ c4 c5 c6, Wd K E.C_Trade [] [] H H' σ [.t n ps, .d (.int (k : Nat)), .l pc (iL (scL n ps)), .l pf (iL (foL n ps (t + 1))), c4, c5, c6]) (fun H5 w5 => ⟨_, _, _, w5⟩) ?_ ?_
    · rintro t σ H' ht ⟨c4, c5, c6, w5⟩
      have e1 : 1 + ((t : Nat) : Int) = ((t + 1 : Nat) : Int) := by omega
      rw [e1]
      have w6 : Wd K E.C_Trade [] [] H H' _ [.t n ps, .d (.int (k : Nat)), .l pc (iL (scL n ps)), .l pf (iL (foL n ps (t + 1))), .d (.int (t + 1 : Nat)), c5, c6] := w5.set 4 (v := .int (t + 1 : Nat)) (c := .d (.int (t + 1 : Nat))) (Td.int _)
      refine q_asgD w6 (d := .int (- sumS' n ps (t + 1) 0)) ev_int fun σ7 H7 w7 => ?_
      have w7' : Wd K E.C_Trade [] [] H H7 σ7 [.t n ps, .d (.int (k : Nat)), .l pc (iL (scL n ps)), .l pf (iL (foL n ps (t + 1))), .d (.int (t + 1 : Nat)), .d (.int (- sumS' n ps (t + 1) 0)), c6] := w7
      refine q_forR2 w7' (lo := 1) (n := min ((t + 1 : Nat) : Int) (n : Int) + 1) (ea_cons ev_int (ea_cons (ev_addI (ev_min2 (ev_var (i := 4) w7' rfl) (ev_letters (ev_var (i := 0) w7' rfl))) ev_int) ea_nil)) (by omega) (fun u σ H' => ∃ c6, Wd K E.C_Trade [] [] H H' σ [.t n ps, .d (.int (k : Nat)), .l pc (iL (scL n ps)), .l pf (iL (foL n ps (t + 1))), .d (.int (t + 1 : Nat)), .d (.int (- sumS' n ps (t + 1) u)), c6]) (fun H8 w8 => ⟨_, w8⟩) ?_ ?_
      · rintro u σ H' hu ⟨c6, w8⟩
        have e2 : 1 + ((u : Nat) : Int) = ((u + 1 : Nat) : Int) := by omega
        rw [e2]
        have w9 : Wd K E.C_Trade [] [] H H' _ [.t n ps, .d (.int (k : Nat)), .l pc (iL (scL n ps)), .l pf (iL (foL n ps (t + 1))), .d (.int (t + 1 : Nat)), .d (.int (- sumS' n ps (t + 1) u)), .d (.int (u + 1 : Nat))] := w8.set 6 (v := .int (u + 1 : Nat)) (c := .d (.int (u + 1 : Nat))) (Td.int _)
        refine s_asgD w9 (d := .int (- sumS' n ps (t + 1) (u + 1))) (ev_d (ev_i0 (ev_var (i := 5) w9 rfl) (ev_iC (d := .int (cS (grL ps n) (u + 1) * ((cnL n ps (t + 1 - (u + 1)) 0 : Nat) : Int))) (ev_ixL (ev_var (i := 2) w9 rfl) (ev_var (i := 6) w9 rfl) (atI_nat (scL_at (by omega)))) (ev_ixL (d := .int (cnL n ps (t + 1 - (u + 1)) 0 : Nat)) (ev_var (i := 3) w9 rfl) (ev_d (e := .int (t + 1 - (u + 1) : Nat)) (ev_i0 (ev_var (i := 4) w9 rfl) (ev_var (i := 6) w9 rfl) (fun _ => .int _)) (by congr 1; omega)) (atI_nat (foL_at (by omega)))) (wide_mul (cs_wide h6 ps _) (cn_wide h6 ps (by omega)) (by decide) (by decide) (by decide)) (fun _ => .int _)) (fun _ => .int _)) ?_) fun σa Ha wa => ⟨_, wa⟩
        rw [sumS'_succ]
        congr 1
        omega
      · rintro σ H' ⟨c6, w8⟩
        have e3 : (min ((t + 1 : Nat) : Int) (n : Int) + 1 - 1).toNat = min (t + 1) n := by omega
        rw [e3, ← cn_rule hok (Nat.succ_pos t)] at w8
        refine s_app w8 (i := 3) rfl (ev_var (i := 5) w8 rfl) (by rw [iL_len]; unfold foL; rw [List.length_map, List.length_range]; omega) fun H9 w9 => ⟨.d (.int (t + 1 : Nat)), .d (.int (cnL n ps (t + 1) 0 : Nat)), c6, ?_⟩
        have e4 : iL (foL n ps (t + 1 + 1)) = iL (foL n ps (t + 1)) ++ [.int (cnL n ps (t + 1) 0 : Nat)] := by
          unfold foL
          rw [List.range_succ (n := t + 1), List.map_append, iL_app]
          rfl
        rw [e4]
        exact w9
    · rintro σ H' ⟨c4, c5, c6, w5⟩
      have e5 : ((k : Int) + 1 - 1).toNat = k := by omega
      rw [e5] at w5
      exact s_retQ w5 q (ev_ixL (ev_var (i := 3) w5 rfl) (ev_var (i := 1) w5 rfl) (atI_nat (foL_at (by omega))))
end
end K1
set_option maxRecDepth 10000000
namespace K1
open PySem PySem.Spec PyProof.Rows L2 Pt
local macro_rules
  | `(tactic| walk_at "sz") => `(tactic| first
    | omega
    | decide
    | (simp; omega)
    | (simp [iL, row, pairsD]; omega))
  | `(tactic| walk_at "ea") => `(tactic| first
    | (with_reducible exact ea_nil)
    | ((with_reducible apply ea_consL); (focus (walk_at "ev")); (focus (walk_at "ea")))
    | ((with_reducible apply ea_consS); (focus (walk_at "ev")); (focus (walk_at "ea")))
    | ((with_reducible apply ea_cons); (focus (walk_at "ev")); (focus (walk_at "ea")))
    | ((with_reducible apply ea_consN); (focus (walk_at "en")); (focus (walk_at "ea"))))
  | `(tactic| walk_at "ed") => `(tactic| first
    | (with_reducible exact ed_nil)
    | ((with_reducible apply ed_cons); (focus (walk_at "ev")); (focus (walk_at "ed"))))
  | `(tactic| walk_at "en") => `(tactic| first
    | ((with_reducible apply en_lst); (focus (walk_at "ed")); (focus (simp)))
    | ((with_reducible apply en_listT); (focus (walk_at "ev")))
    | ((with_reducible apply en_addL); (focus (walk_at "ev")); (focus (walk_at "en")); (focus (walk_at "sz")))
    | ((with_reducible apply en_addN); (focus (walk_at "en")); (focus (walk_at "en")); (focus (walk_at "sz")))
    | ((with_reducible apply en_slL); (focus (walk_at "ev")); (focus (walk_at "eo")); (focus (walk_at "eo"))))
  | `(tactic| walk_at "eo") => `(tactic| first
    | (with_reducible exact eo_none)
    | ((with_reducible apply eo_some); (focus (walk_at "ev"))))
  | `(tactic| walk_at "et") => `(tactic| first
    | (with_reducible exact et_yes)
    | ((with_reducible apply et_test); (focus (walk_at "ev")))
    | ((with_reducible apply et_B); (focus (walk_at "ev")))
    | ((with_reducible apply et_truB); (focus (walk_at "ev")))
    | ((with_reducible apply et_truT); (focus (walk_at "ev")))
    | ((with_reducible apply et_not); (focus (walk_at "et")))
    | ((with_reducible apply et_and); (focus (walk_at "et")); (focus (intro _; walk_at "et")))
    | ((with_reducible apply et_or); (focus (walk_at "et")); (focus (intro _; walk_at "et"))))
  | `(tactic| walk_at "var") => `(tactic| first
    | ((with_reducible apply ev_varD); (focus (assumption)); (focus (rfl)))
    | ((with_reducible apply ev_varL); (focus (assumption)); (focus (rfl)))
    | ((with_reducible apply ev_varS); (focus (assumption)); (focus (rfl)))
    | ((with_reducible apply ev_varT); (focus (assumption)); (focus (rfl)))
    | ((with_reducible apply ev_varH); (focus (assumption)); (focus (rfl)))
    | ((with_reducible apply ev_varZ); (focus (assumption)); (focus (rfl))))
  | `(tactic| walk_at "ev") => `(tactic| first
    | walk_at "var"
    | (with_reducible exact ev_int)
    | (with_reducible exact ev_bl)
    | (with_reducible exact ev_str)
    | (with_reducible exact ev_non)
    | ((with_reducible apply ev_letters); (focus (walk_at "ev")))
    | ((with_reducible apply ev_pairs); (focus (walk_at "ev")))
    | ((with_reducible apply ev_addI); (focus (walk_at "ev")); (focus (walk_at "ev")))
    | ((with_reducible apply ev_addT); (focus (walk_at "ev")); (focus (walk_at "ev")); (focus (walk_at "sz")))
    | ((with_reducible apply ev_i0); (focus (walk_at "ev")); (focus (walk_at "ev")); (focus (first | exact fun _ => .int _ | exact fun _ => .bl _)))
    | ((with_reducible apply ev_iC); (focus (walk_at "ev")); (focus (walk_at "ev")); (focus (first | assumption | walk_at "cond")); (focus (exact fun _ => .int _)))
    | ((with_reducible apply ev_chain); (focus (walk_at "ev")); (focus (walk_at "ev")); (focus (walk_at "ev")))
    | ((with_reducible apply ev_eqI); (focus (walk_at "ev")); (focus (walk_at "ev")))
    | ((with_reducible apply ev_neI); (focus (walk_at "ev")); (focus (walk_at "ev")))
    | ((with_reducible apply ev_eqR); (focus (walk_at "ev")); (focus (walk_at "ev")))
    | ((with_reducible apply ev_neR); (focus (walk_at "ev")); (focus (walk_at "ev")))
    | ((with_reducible apply ev_isN); (focus (walk_at "ev")))
    | ((with_reducible apply ev_notN); (focus (walk_at "ev")))
    | ((with_reducible apply ev_in2); (focus (walk_at "ev")); (focus (walk_at "ev")); (focus (walk_at "ev")))
    | ((with_reducible apply ev_inP); (focus (walk_at "ev")); (focus (walk_at "ev")))
    | ((with_reducible apply ev_tup); (focus (walk_at "ed")); (focus (simp)))
    | ((with_reducible apply ev_lenT); (focus (walk_at "ev")))
    | ((with_reducible apply ev_lenL); (focus (walk_at "ev")))
    | ((with_reducible apply ev_lenS); (focus (walk_at "ev")))
    | ((with_reducible apply ev_lenN); (focus (walk_at "en")))
    | ((with_reducible apply ev_max2); (focus (walk_at "ev")); (focus (walk_at "ev")))
    | ((with_reducible apply ev_min2); (focus (walk_at "ev")); (focus (walk_at "ev")))
    | ((with_reducible apply ev_int1); (focus (walk_at "ev")))
    | ((with_reducible apply ev_tupleL); (focus (walk_at "ev")))
    | ((with_reducible apply ev_tupleN); (focus (walk_at "en")))
    | ((with_reducible apply ev_countT); (focus (walk_at "ev")); (focus (walk_at "ev")))
    | ((with_reducible apply ev_andV); (focus (walk_at "ev")); (focus (intro _; walk_at "ev")))
    | ((with_reducible apply ev_orV); (focus (walk_at "ev")); (focus (intro _; walk_at "ev")))
    | ((with_reducible apply ev_notV); (focus (walk_at "ev"))))
section
variable {P : Program} {w : World} {K : PySem.W.Frag} {mg : Str → Option Value} {base : Heap}
def sgI (i : Nat) : Int := if i % 2 = 0 then 1 else -1
def chgSL (l : List Int) : List Int := (List.range l.length).map fun i => l.getD i 0 * sgI i
abbrev A_change_signs (as : List Ag) (ds : List PyData) : Prop := ∃ l : List Int, l.length ≤ 100 ∧ as = [.n (iL l)] ∧ ds = iL (chgSL l)
theorem ok_change_signs (E : Nv K mg) : FnOk P w K mg base CX0 8 E.a_change_signs E.d_change_signs ["terms"] (spN K E.C_Trade A_change_signs) := by
  refine E.F_change_signs.ok sc_change_signs (fun vs H Q _ h => ?_) (fun cdv A outer s H vs Q _ hr h => ?_)
  · obtain ⟨as, d, ha, ⟨_, _, rfl, _⟩, _⟩ := h
    exact ha.length
  · obtain ⟨as, d, ha, ⟨l, hl, rfl, rfl⟩, q⟩ := h
    obtain ⟨v1, rfl, a1⟩ := ha.one
    obtain ⟨pt, a1⟩ := a1.lent
    refine ⟨_, (pss_one (ps_ret (pe_lc (own := [("place", 1), ("term", 2)]) (by rfl) sc_change_signs.nd (pi_enumK K (by rfl) E.n_enumerate (pa_cons (pv 0) pa_nil)) (blkOk_by (own := [("place", 1), ("term", 2)]) (N := N_change_signs) (sc := defScope s_change_signs) (by decide +kernel)) (fun _ _ _ _ _ => (pg_tupK K (n := 2) rfl (pgs_cons (pg_name (i := 1) sc_change_signs.nd rfl (.inl rfl)) (pgs_cons (pg_name (i := 2) sc_change_signs.nd rfl (.inl rfl)) pgs_nil)))) (fun _ _ _ _ _ => pts_nil) (fun _ _ _ _ _ => (pe_op op_mul (pv 2) (pe_call (ok_sign E) (hr.mono (by first | decide | omega)) (by rfl) E.m_sign E.F_sign.kp E.b_sign .nil pass0 (pa_cons (pv 1) pa_nil))))))), ?_⟩
    have w0 : Wd K E.C_Trade [] [] H H _ [.s pt (iL l), .u, .u] := Wd.start1 (N := N_change_signs) (c1 := .s pt (iL l)) a1
    refine s_retNQ w0 q (en_cast (en_lcEL (l := l) (by decide) w0 (ev_var (i := 0) w0 rfl) (fun _ => true) (fun p => .int (l.getD p 0 * sgI p)) (by omega) (fun p _ σ1 H1 w1 => et_yes) (fun p hp σ1 H1 w1 _ => ev_d (ev_iC (k := l[p]) (j := sgI p) (ev_var (i := 2) w1 rfl) (ev_call (ea_cons (ev_var (i := 1) w1 rfl) ea_nil) ⟨p, rfl, rfl⟩) (.inr (by unfold sgI; split <;> decide)) (fun _ => .int _)) (by rw [List.getD_eq_getElem?_getD, List.getElem?_eq_getElem hp]; rfl))) (by rw [kept_all]; unfold chgSL iL; rw [List.map_map]; rfl))
def mulIn (a b : List Int) (m : Int) (i : Nat) : Nat → List Int → List Int
  | 0, f => f
  | j + 1, f => let g := mulIn a b m i j f; g.set (i + j) ((g.getD (i + j) 0 + a.getD i 0 * b.getD j 0) % m)
def mulOut (a b : List Int) (m : Int) : Nat → List Int
  | 0 => List.replicate (a.length + b.length - 1) 0
  | i + 1 => mulIn a b m i b.length (mulOut a b m i)
def mulL (a b : List Int) (m : Int) : List Int := mulOut a b m a.length
theorem mulIn_len (a b : List Int) (m : Int) (i : Nat) : ∀ (j : Nat) (f : List Int), (mulIn a b m i j f).length = f.length
  | 0, f => rfl
  | j + 1, f => by
    show (List.set _ _ _).length = _
    rw [List.length_set, mulIn_len a b m i j f]
theorem mulOut_len (a b : List Int) (m : Int) : ∀ i, (mulOut a b m i).length = a.length + b.length - 1
  | 0 => List.length_replicate
  | i + 1 => by
    show (mulIn _ _ _ _ _ _).length = _
    rw [mulIn_len, mulOut_len a b m i]
def Sm (l : List Int) : Prop := l.length ≤ 100 ∧ ∀ x ∈ l, -1000000000 ≤ x ∧ x ≤ 1000000000
abbrev A_multiply (as : List Ag) (ds : List PyData) : Prop := ∃ (a b : List Int) (m : Int), Sm a ∧ Sm b ∧ 1 ≤ a.length ∧ 1 ≤ m ∧ as = [.n (iL a), .n (iL b), .c (.d (.int m))] ∧ ds = iL (mulL a b m)
theorem ok_multiply (E : Nv K mg) : FnOk P w K mg base CX0 8 E.a_multiply E.d_multiply ["one", "other", "modulus"] (spN K E.C_Trade A_multiply) := by
  refine E.F_multiply.ok sc_multiply (fun vs H Q _ h => ?_) (fun cdv A outer s H vs Q _ hr h => ?_)
  · obtain ⟨as, d, ha, ⟨_, _, _, _, _, _, _, rfl, _⟩, _⟩ := h
    exact ha.length
  · obtain ⟨as, d, ha, ⟨a, b, m, sa, sb, ha1, hm, rfl, rfl⟩, q⟩ := h
    obtain ⟨v1, v2, v3, rfl, a1, a2, a3⟩ := ha.three
    obtain ⟨pa, a1⟩ := a1.lent
    obtain ⟨pb, a2⟩ := a2.lent
    refine ⟨_, (pss_cons (ps_set (i := 3) sc_multiply.nd rfl (.inl rfl) (pe_op op_rep (pe_lst (pa_cons pe_int pa_nil)) (pe_op op_sub (pe_op (op_addK K) (pe_callB (call_lenK K) (by rfl) E.n_len (by decide +kernel) (pa_cons (pv 0) pa_nil)) (pe_callB (call_lenK K) (by rfl) E.n_len (by decide +kernel) (pa_cons (pv 1) pa_nil))) pe_int)))
      (pss_cons (ps_for PassesOwn.never rfl (pi_enumK K (by rfl) E.n_enumerate (pa_cons (pv 0) pa_nil)) (pg_tupK K (n := 2) rfl (pgs_cons (pg_name (i := 4) sc_multiply.nd rfl (.inl rfl)) (pgs_cons (pg_name (i := 5) sc_multiply.nd rfl (.inl rfl)) pgs_nil)))
      (pss_one (ps_for PassesOwn.never rfl (pi_enumK K (by rfl) E.n_enumerate (pa_cons (pv 1) pa_nil)) (pg_tupK K (n := 2) rfl (pgs_cons (pg_name (i := 6) sc_multiply.nd rfl (.inl rfl)) (pgs_cons (pg_name (i := 7) sc_multiply.nd rfl (.inl rfl)) pgs_nil)))
      (pss_one (ps_asg (pe_op op_mod (pe_op (op_addK K) (pe_ix (ix_K K) (pv 3) (pe_op (op_addK K) (pv 4) (pv 6)) (fun _ _ => rfl)) (pe_op op_mul (pv 5) (pv 7))) (pv 2)) (pg_sub (pv 3) (pe_op (op_addK K) (pv 4) (pv 6)) set_list))))))
      (pss_one (ps_ret (pv 3))))), ?_⟩
    have w0 : Wd K E.C_Trade [] [] H H _ [.s pa (iL a), .s pb (iL b), .d (.int m), .u, .u, .u, .u, .u] := Wd.start3 (N := N_multiply) (c1 := .s pa (iL a)) (c2 := .s pb (iL b)) a1 a2 a3
    have la := sa.1
    have lb := sb.1
    refine q_asgN w0 (en_cast (es := iL (mulOut a b m 0)) (en_repL (k := (a.length : Int) + b.length - 1) (en_lst (ds := iL [0]) (ed_cons ev_int ed_nil) (Nat.le_of_ble_eq_true rfl)) (ev_i0 (ev_addI (ev_d (ev_lenS (ev_var (i := 0) w0 rfl)) (by rw [iL_len])) (ev_d (ev_lenS (ev_var (i := 1) w0 rfl)) (by rw [iL_len]))) ev_int (fun _ => .int _)) (by omega) (by omega) (Nat.le_of_ble_eq_true rfl)) ?_) fun p σ1 H1 _ w1 => ?_
    · have : ∀ k : Nat, (List.replicate k (iL [0])).flatten = iL (List.replicate k 0) := fun k => by
        induction k with
        | zero => rfl
        | succ k ih => rw [List.replicate_succ, List.flatten_cons, ih, List.replicate_succ]; rfl
      rw [this, show ((a.length : Int) + b.length - 1).toNat = a.length + b.length - 1 by omega]
      rfl
    have w1' : Wd K E.C_Trade [] [] H H1 σ1 [.s pa (iL a), .s pb (iL b), .d (.int m), .l p (iL (mulOut a b m 0)), .u, .u, .u, .u] := w1
    refine s_seq (s_forES w1' (ev_var (i := 0) w1' rfl) (fun t σ' H' => ∃ c4 c5 c6 c7, Wd K E.C_Trade [] [] H H' σ' [.s pa (iL a), .s pb (iL b), .d (.int m), .l p (iL (mulOut a b m t)), c4, c5, c6, c7]) (fun H2 w2 => ⟨_, _, _, _, w2⟩) (fun t σ' H' ⟨_, _, _, _, w2⟩ => ?_) ?_ ?_)
    · obtain ⟨v, _, av⟩ := w2.get (i := 0) rfl
      obtain rfl : v = .ref pa := av.1
      exact av
    · rintro t d v σ' H' H2 hd tv ⟨c4, c5, c6, c7, w2⟩ e2
      have ht : t < a.length := by
        have := (List.getElem?_eq_some_iff.mp hd).1
        rw [iL_len] at this
        exact this
      have ed : d = .int (a.getD t 0) := by
        rw [iL_get, List.getElem?_eq_getElem ht] at hd
        rw [List.getD_eq_getElem?_getD, List.getElem?_eq_getElem ht]
        exact (Option.some.inj hd).symm
      subst ed
      have hta : a.getD t 0 ∈ a := by
        rw [List.getD_eq_getElem?_getD, List.getElem?_eq_getElem ht]
        exact List.getElem_mem ht
      have hA := sa.2 _ hta
      have w3 : Wd K E.C_Trade [] [] H H2 _ [.s pa (iL a), .s pb (iL b), .d (.int m), .l p (iL (mulOut a b m t)), .d (.int (t : Nat)), .d (.int (a.getD t 0)), c6, c7] := ((w2.mono e2).set 4 (v := .int (t : Nat)) (c := .d (.int (t : Nat))) (Td.int _)).set 5 (c := .d (.int (a.getD t 0))) tv
      refine s_forES w3 (ev_var (i := 1) w3 rfl) (fun u σ' H' => ∃ c6 c7, Wd K E.C_Trade [] [] H H' σ' [.s pa (iL a), .s pb (iL b), .d (.int m), .l p (iL (mulIn a b m t u (mulOut a b m t))), .d (.int (t : Nat)), .d (.int (a.getD t 0)), c6, c7]) (fun H3 w4 => ⟨_, _, w4⟩) (fun u σ' H' ⟨_, _, w4⟩ => ?_) ?_ ?_
      · obtain ⟨v, _, av⟩ := w4.get (i := 1) rfl
        obtain rfl : v = .ref pb := av.1
        exact av
      · rintro u d v σ' H' H3 hd tv ⟨c6, c7, w4⟩ e3
        have hu : u < b.length := by
          have := (List.getElem?_eq_some_iff.mp hd).1
          rw [iL_len] at this
          exact this
        have ed : d = .int (b.getD u 0) := by
          rw [iL_get, List.getElem?_eq_getElem hu] at hd
          rw [List.getD_eq_getElem?_getD, List.getElem?_eq_getElem hu]
          exact (Option.some.inj hd).symm
        subst ed
        have w5 : Wd K E.C_Trade [] [] H H3 _ [.s pa (iL a), .s pb (iL b), .d (.int m), .l p (iL (mulIn a b m t u (mulOut a b m t))), .d (.int (t : Nat)), .d (.int (a.getD t 0)), .d (.int (u : Nat)), .d (.int (b.getD u 0))] := ((w4.mono e3).set 6 (v := .int (u : Nat)) (c := .d (.int (u : Nat))) (Td.int _)).set 7 (c := .d (.int (b.getD u 0))) tv
        have hlen : (mulIn a b m t u (mulOut a b m t)).length = a.length + b.length - 1 := by rw [mulIn_len, mulOut_len]
        have hg : (iL (mulIn a b m t u (mulOut a b m t)))[t + u]? = some (.int ((mulIn a b m t u (mulOut a b m t)).getD (t + u) 0)) := by
          rw [iL_get, List.getD_eq_getElem?_getD, List.getElem?_eq_getElem (show t + u < _ by omega)]
          rfl
        have ixe : ∀ {H4 : Hp} {σ : L2.St}, Wd K E.C_Trade [] [] H H4 σ [.s pa (iL a), .s pb (iL b), .d (.int m), .l p (iL (mulIn a b m t u (mulOut a b m t))), .d (.int (t : Nat)), .d (.int (a.getD t 0)), .d (.int (u : Nat)), .d (.int (b.getD u 0))] → EvC K E.C_Trade (tOp (rAddU K) (tVar 4) (tVar 6)) σ H4 (.d (.int ((t + u : Nat) : Int))) := fun w => ev_d (ev_addI (ev_var (i := 4) w rfl) (ev_var (i := 6) w rfl)) rfl
        refine s_setL (j := t + u) (d := .int (((mulIn a b m t u (mulOut a b m t)).getD (t + u) 0 + a.getD t 0 * b.getD u 0) % m)) w5 (i := 3) rfl (ev_iC (ev_addI (ev_ixL (ev_var (i := 3) w5 rfl) (ixe w5) (atI_nat hg)) (ev_iC (ev_var (i := 5) w5 rfl) (ev_var (i := 7) w5 rfl) (.inl (by omega)) (fun _ => .int _))) (ev_var (i := 2) w5 rfl) (by show (0 : Int) < m; omega) (fun _ => .int _)) (fun H4 w6 => ixe w6) (by rw [iL_len]; omega) fun H4 w6 => ⟨.d (.int (u : Nat)), .d (.int (b.getD u 0)), ?_⟩
        have e : iL (mulIn a b m t (u + 1) (mulOut a b m t)) = (iL (mulIn a b m t u (mulOut a b m t))).set (t + u) (.int (((mulIn a b m t u (mulOut a b m t)).getD (t + u) 0 + a.getD t 0 * b.getD u 0) % m)) := by
          show List.map _ (List.set _ _ _) = _
          rw [List.map_set]
          rfl
        rw [e]
        exact w6
      · rintro σ' H' ⟨c6, c7, w4⟩
        rw [iL_len] at w4
        exact ⟨_, _, _, _, w4⟩
    · rintro σ' H' ⟨c4, c5, c6, c7, w2⟩
      rw [iL_len] at w2
      exact s_retLQ w2 q rfl
end
end K1
set_option maxRecDepth 10000000
namespace K1
open PySem PySem.Spec PyProof.Rows L2 Pt
local macro_rules
  | `(tactic| walk_at "sz") => `(tactic| first
    | omega
    | decide
    | (simp; omega)
    | (simp [iL, row, pairsD]; omega))
  | `(tactic| walk_at "ea") => `(tactic| first
    | (with_reducible exact ea_nil)
    | ((with_reducible apply ea_consL); (focus (walk_at "ev")); (focus (walk_at "ea")))
    | ((with_reducible apply ea_consS); (focus (walk_at "ev")); (focus (walk_at "ea")))
    | ((with_reducible apply ea_cons); (focus (walk_at "ev")); (focus (walk_at "ea")))
    | ((with_reducible apply ea_consN); (focus (walk_at "en")); (focus (walk_at "ea"))))
  | `(tactic| walk_at "ed") => `(tactic| first
    | (with_reducible exact ed_nil)
    | ((with_reducible apply ed_cons); (focus (walk_at "ev")); (focus (walk_at "ed"))))
  | `(tactic| walk_at "en") => `(tactic| first
    | ((with_reducible apply en_lst); (focus (walk_at "ed")); (focus (simp)))
    | ((with_reducible apply en_listT); (focus (walk_at "ev")))
    | ((with_reducible apply en_addL); (focus (walk_at "ev")); (focus (walk_at "en")); (focus (walk_at "sz")))
    | ((with_reducible apply en_addN); (focus (walk_at "en")); (focus (walk_at "en")); (focus (walk_at "sz")))
    | ((with_reducible apply en_slL); (focus (walk_at "ev")); (focus (walk_at "eo")); (focus (walk_at "eo"))))
  | `(tactic| walk_at "eo") => `(tactic| first
    | (with_reducible exact eo_none)
    | ((with_reducible apply eo_some); (focus (walk_at "ev"))))
  | `(tactic| walk_at "et") => `(tactic| first
    | (with_reducible exact et_yes)
    | ((with_reducible apply et_test); (focus (walk_at "ev")))
    | ((with_reducible apply et_B); (focus (walk_at "ev")))
    | ((with_reducible apply et_truB); (focus (walk_at "ev")))
    | ((with_reducible apply et_truT); (focus (walk_at "ev")))
    | ((with_reducible apply et_not); (focus (walk_at "et")))
    | ((with_reducible apply et_and); (focus (walk_at "et")); (focus (intro _; walk_at "et")))
    | ((with_reducible apply et_or); (focus (walk_at "et")); (focus (intro _; walk_at "et"))))
  | `(tactic| walk_at "var") => `(tactic| first
    | ((with_reducible apply ev_varD); (focus (assumption)); (focus (rfl)))
    | ((with_reducible apply ev_varL); (focus (assumption)); (focus (rfl)))
    | ((with_reducible apply ev_varS); (focus (assumption)); (focus (rfl)))
    | ((with_reducible apply ev_varT); (focus (assumption)); (focus (rfl)))
    | ((with_reducible apply ev_varH); (focus (assumption)); (focus (rfl)))
    | ((with_reducible apply ev_varZ); (focus (assumption)); (focus (rfl))))
  | `(tactic| walk_at "ev") => `(tactic| first
    | walk_at "var"
    | (with_reducible exact ev_int)
    | (with_reducible exact ev_bl)
    | (with_reducible exact ev_str)
    | (with_reducible exact ev_non)
    | ((with_reducible apply ev_letters); (focus (walk_at "ev")))
    | ((with_reducible apply ev_pairs); (focus (walk_at "ev")))
    | ((with_reducible apply ev_addI); (focus (walk_at "ev")); (focus (walk_at "ev")))
    | ((with_reducible apply ev_addT); (focus (walk_at "ev")); (focus (walk_at "ev")); (focus (walk_at "sz")))
    | ((with_reducible apply ev_i0); (focus (walk_at "ev")); (focus (walk_at "ev")); (focus (first | exact fun _ => .int _ | exact fun _ => .bl _)))
    | ((with_reducible apply ev_iC); (focus (walk_at "ev")); (focus (walk_at "ev")); (focus (first | assumption | walk_at "cond")); (focus (exact fun _ => .int _)))
    | ((with_reducible apply ev_chain); (focus (walk_at "ev")); (focus (walk_at "ev")); (focus (walk_at "ev")))
    | ((with_reducible apply ev_eqI); (focus (walk_at "ev")); (focus (walk_at "ev")))
    | ((with_reducible apply ev_neI); (focus (walk_at "ev")); (focus (walk_at "ev")))
    | ((with_reducible apply ev_eqR); (focus (walk_at "ev")); (focus (walk_at "ev")))
    | ((with_reducible apply ev_neR); (focus (walk_at "ev")); (focus (walk_at "ev")))
    | ((with_reducible apply ev_isN); (focus (walk_at "ev")))
    | ((with_reducible apply ev_notN); (focus (walk_at "ev")))
    | ((with_reducible apply ev_in2); (focus (walk_at "ev")); (focus (walk_at "ev")); (focus (walk_at "ev")))
    | ((with_reducible apply ev_inP); (focus (walk_at "ev")); (focus (walk_at "ev")))
    | ((with_reducible apply ev_tup); (focus (walk_at "ed")); (focus (simp)))
    | ((with_reducible apply ev_lenT); (focus (walk_at "ev")))
    | ((with_reducible apply ev_lenL); (focus (walk_at "ev")))
    | ((with_reducible apply ev_lenS); (focus (walk_at "ev")))
    | ((with_reducible apply ev_lenN); (focus (walk_at "en")))
    | ((with_reducible apply ev_max2); (focus (walk_at "ev")); (focus (walk_at "ev")))
    | ((with_reducible apply ev_min2); (focus (walk_at "ev")); (focus (walk_at "ev")))
    | ((with_reducible apply ev_int1); (focus (walk_at "ev")))
    | ((with_reducible apply ev_tupleL); (focus (walk_at "ev")))
    | ((with_reducible apply ev_tupleN); (focus (walk_at "en")))
    | ((with_reducible apply ev_countT); (focus (walk_at "ev")); (focus (walk_at "ev")))
    | ((with_reducible apply ev_andV); (focus (walk_at "ev")); (focus (intro _; walk_at "ev")))
    | ((with_reducible apply ev_orV); (focus (walk_at "ev")); (focus (intro _; walk_at "ev")))
    | ((with_reducible apply ev_notV); (focus (walk_at "ev"))))
section
variable {P : Program} {w : World} {K : PySem.W.Frag} {mg : Str → Option Value} {base : Heap}
theorem q_rawN {C : Addr} {tz : TS} {D : Ends} {σ : L2.St} {H : Hp} {te : TE} {i : Nat} {ds : List PyData} (h : EvN K C te σ H ds) (k : ∀ p H1, H p = none → Same H H1 → CtAt K C H1 (.ref p) (.l p ds) → tz D (σ.set i (some (.ref p))) H1) : tSeq (tAsg te (gName i)) tz D σ H :=
  h H (Same.refl H) _ fun p H1 hp e a => k p H1 hp e a
theorem fm_len {α : Type} (xs : List α) : ∀ is : List Nat, (∀ i ∈ is, i < xs.length) → (is.filterMap (xs[·]?)).length = is.length
  | [], _ => rfl
  | i :: is, h => by
    rw [List.filterMap_cons, List.getElem?_eq_getElem (h i List.mem_cons_self)]
    show ((is.filterMap (xs[·]?)).length + 1) = _
    rw [fm_len xs is fun j m => h j (List.mem_cons_of_mem _ m), List.length_cons]
theorem fm_mem {α : Type} (xs : List α) (is : List Nat) (x : α) (h : x ∈ is.filterMap (xs[·]?)) : x ∈ xs := by
  obtain ⟨i, _, e⟩ := List.mem_filterMap.mp h
  exact List.mem_of_getElem? e
theorem pick_len {α : Type} (xs : List α) (r : Nat) (hr : r ≤ 1) (hx : 1 ≤ xs.length) : (pickG xs (some (r : Int)) (some 2)).length = (xs.length + 1 - r) / 2 := by
  have b : sliceBounds (some (r : Int)) none (some 2) xs.length = ((r : Int), (xs.length : Int), 2) := by
    unfold sliceBounds
    simp
    omega
  unfold pickG
  rw [b]
  dsimp only
  have c : (sliceRange (r : Int) (xs.length : Int) 2).length = (xs.length + 1 - r) / 2 := by
    unfold sliceRange
    rw [List.length_map, List.length_range, if_pos (by decide)]
    split <;> omega
  rw [fm_len, c]
  intro i hi
  unfold sliceRange at hi
  obtain ⟨k, hk, rfl⟩ := List.mem_map.mp hi
  have := List.mem_range.mp hk
  rw [if_pos (by decide)] at this
  split at this <;> omega
theorem pick_len0 {α : Type} (xs : List α) (hx : 1 ≤ xs.length) : (pickG xs none (some 2)).length = (xs.length + 1) / 2 := by
  have e : pickG xs none (some 2) = pickG xs (some ((0 : Nat) : Int)) (some 2) := by
    unfold pickG sliceBounds
    simp
    rw [show max (0 : Int) (min 0 (xs.length : Int)) = 0 by omega]
  rw [e, pick_len xs 0 (by decide) hx]
  simp
theorem pick_iL (l : List Int) (lo st : Option Int) : pickG (iL l) lo st = iL (pickG l lo st) := by
  unfold pickG
  rw [iL_len]
  unfold iL
  rw [List.map_filterMap]
  congr 1
  funext i
  rw [List.getElem?_map]
theorem pick_mem {α : Type} {xs : List α} {lo st : Option Int} {x : α} (h : x ∈ pickG xs lo st) : x ∈ xs := fm_mem xs _ x h
theorem mulIn_sm {a b : List Int} {m : Int} (h1 : 1 ≤ m) (h2 : m ≤ 1000000000) (i : Nat) : ∀ (j : Nat) (f : List Int), (∀ x ∈ f, -1000000000 ≤ x ∧ x ≤ 1000000000) → ∀ x ∈ mulIn a b m i j f, -1000000000 ≤ x ∧ x ≤ 1000000000
  | 0, f, h => h
  | j + 1, f, h => fun x hx => by
    have ih := mulIn_sm (a := a) (b := b) h1 h2 i j f h
    rcases List.mem_or_eq_of_mem_set hx with hx | rfl
    · exact ih x hx
    · have e1 := Int.emod_nonneg ((mulIn a b m i j f).getD (i + j) 0 + a.getD i 0 * b.getD j 0) (show m ≠ 0 by omega)
      have e2 := Int.emod_lt_of_pos ((mulIn a b m i j f).getD (i + j) 0 + a.getD i 0 * b.getD j 0) (show 0 < m by omega)
      omega
theorem mulOut_sm {a b : List Int} {m : Int} (h1 : 1 ≤ m) (h2 : m ≤ 1000000000) : ∀ (i : Nat), ∀ x ∈ mulOut a b m i, -1000000000 ≤ x ∧ x ≤ 1000000000
  | 0 => fun x hx => by
    have := List.eq_of_mem_replicate hx
    subst this
    decide
  | i + 1 => mulIn_sm h1 h2 i b.length _ (mulOut_sm h1 h2 i)
theorem chgSL_len (l : List Int) : (chgSL l).length = l.length := by unfold chgSL; simp
theorem chgSL_sm {l : List Int} (h : Sm l) : Sm (chgSL l) := by
  refine ⟨by rw [chgSL_len]; exact h.1, fun x hx => ?_⟩
  unfold chgSL at hx
  obtain ⟨i, hi, rfl⟩ := List.mem_map.mp hx
  have hi := List.mem_range.mp hi
  have hm : l.getD i 0 ∈ l := by
    rw [List.getD_eq_getElem?_getD, List.getElem?_eq_getElem hi]
    exact List.getElem_mem hi
  have := h.2 _ hm
  unfold sgI
  split <;> omega
def termGo : Nat → List Int → List Int → Nat → Int → List Int
  | 0, a, _, _, _ => a
  | f + 1, a, b, l, m => if l = 0 then a else termGo f (pickG (mulL a (chgSL b) m) (some ((l % 2 : Nat) : Int)) (some 2)) (pickG (mulL b (chgSL b) m) none (some 2)) (l / 2) m
def termL (c : List Int) (l : Nat) (m : Int) : Int := (termGo 200 [1] c l m).getD 0 0 % m
abbrev A_term_by (as : List Ag) (d : PyData) : Prop := ∃ (c : List Int) (l : Nat) (m : Int), Sm c ∧ 2 ≤ c.length ∧ c.length ≤ 7 ∧ l < 2 ^ 200 ∧ 1 ≤ m ∧ m ≤ 1000000000 ∧ as = [.n (iL c), .c (.d (.int (l : Nat))), .c (.d (.int m))] ∧ d = .int (termL c l m)
theorem ok_term_by (E : Nv K mg) : FnOk P w K mg base CX0 14 E.a_term_by E.d_term_by ["counts", "length", "modulus"] (spC K E.C_Trade A_term_by) := by
  refine E.F_term_by.ok sc_term_by (fun vs H Q _ h => ?_) (fun cdv A outer s H vs Q _ hr h => ?_)
  · obtain ⟨as, d, ha, ⟨_, _, _, _, _, _, _, _, _, rfl, _⟩, _⟩ := h
    exact ha.length
  · obtain ⟨as, d, ha, ⟨c, l, m, sc, c2, c7, hl, m1, m9, rfl, rfl⟩, q⟩ := h
    obtain ⟨v1, v2, v3, rfl, a1, a2, a3⟩ := ha.three
    obtain ⟨pc, a1⟩ := a1.lent
    obtain rfl : v1 = .ref pc := a1.1
    refine ⟨_, (pss_cons (ps_set (i := 3) sc_term_by.nd rfl (.inl rfl) (pe_lst (pa_cons pe_int pa_nil)))
      (pss_cons (ps_set (i := 4) sc_term_by.nd rfl (.inl rfl) (pv 0))
      (pss_cons (ps_set (i := 5) sc_term_by.nd rfl (.inl rfl) (pv 1))
      (pss_cons (ps_while PassesOwn.never (pt_cmpR (op_gt) (pv 5) pe_int (nomark _)) (pss_cons (ps_set (i := 6) sc_term_by.nd rfl (.inl rfl) (pe_call (ok_change_signs E) (hr.mono (by first | decide | omega)) (by rfl) E.m_change_signs E.F_change_signs.kp E.b_change_signs .nil pass0 (pa_cons (pv 4) pa_nil)))
      (pss_cons (ps_set (i := 3) sc_term_by.nd rfl (.inl rfl) (pe_slK (fun v w => [v, w]) (fun _ _ => by with_unfolding_all rfl) (pe_call (ok_multiply E) (hr.mono (by first | decide | omega)) (by rfl) E.m_multiply E.F_multiply.kp E.b_multiply .nil pass0 (pa_cons (pv 3) (pa_cons (pv 6) (pa_cons (pv 2) pa_nil)))) (po_some (pe_op op_mod (pv 5) pe_int)) (po_some pe_int)))
      (pss_cons (ps_set (i := 4) sc_term_by.nd rfl (.inl rfl) (pe_slK (fun v w => [v, w]) (fun _ _ => by with_unfolding_all rfl) (pe_call (ok_multiply E) (hr.mono (by first | decide | omega)) (by rfl) E.m_multiply E.F_multiply.kp E.b_multiply .nil pass0 (pa_cons (pv 4) (pa_cons (pv 6) (pa_cons (pv 2) pa_nil)))) po_none (po_some pe_int)))
      (pss_one (ps_set (i := 5) sc_term_by.nd rfl (.inl rfl) (pe_op op_fdiv (pv 5) pe_int)))))))
      (pss_one (ps_ret (pe_op op_mod (pe_ix (ix_K K) (pv 3) pe_int (fun _ _ => rfl)) (pv 2)))))))), ?_⟩
    have w0 : Wd K E.C_Trade [] [] H H _ [.s pc (iL c), .d (.int (l : Nat)), .d (.int m), .u, .u, .u, .u] := Wd.start3 (N := N_term_by) (c1 := .s pc (iL c)) a1 a2 a3
    refine q_rawN (K := K) (C := E.C_Trade) (ds := iL [1]) (en_lst (ed_cons (ev_int (k := 1)) ed_nil) (show 1 ≤ 10000000 by decide)) fun p3 H1 hp3 e1 b1 => ?_
    have w1 : Wd K E.C_Trade [] [] H H1 _ [.s pc (iL c), .d (.int (l : Nat)), .d (.int m), .r (.ref p3), .u, .u, .u] := (w0.mono e1).set 3 (v := .ref p3) (c := .r (.ref p3)) rfl
    obtain ⟨v0, f0, g0⟩ := w1.get (i := 0) rfl
    obtain rfl : v0 = .ref pc := g0.1
    refine ⟨.ref pc, f0, ?_⟩
    have w2 : Wd K E.C_Trade [] [] H H1 _ [.s pc (iL c), .d (.int (l : Nat)), .d (.int m), .r (.ref p3), .r (.ref pc), .u, .u] := w1.set 4 (v := .ref pc) (c := .r (.ref pc)) rfl
    have r2 : Wd K E.C_Trade [] [] H1 H1 _ [.s pc (iL c), .d (.int (l : Nat)), .d (.int m), .r (.ref p3), .r (.ref pc), .u, .u] := w2.re
    refine q_asgD r2 (ev_var (i := 1) r2 rfl) fun σ3 H3 w3 => ?_
    have w3' : Wd K E.C_Trade [] [] H1 H3 σ3 [.s pc (iL c), .d (.int (l : Nat)), .d (.int m), .r (.ref p3), .r (.ref pc), .d (.int (l : Nat)), .u] := w3
    let Iv : Nat → L2.St → Hp → Prop := fun M σ' H' => ∃ (a b : List Int) (l' f : Nat) (p3 p4 : Addr) (c6 : Ct), Wd K E.C_Trade [] [] H1 H' σ' [.s pc (iL c), .d (.int (l : Nat)), .d (.int m), .r (.ref p3), .r (.ref p4), .d (.int (l' : Nat)), c6] ∧ CtAt K E.C_Trade H' (.ref p3) (.s p3 (iL a)) ∧ CtAt K E.C_Trade H' (.ref p4) (.s p4 (iL b)) ∧ Sm a ∧ Sm b ∧ 1 ≤ a.length ∧ a.length ≤ 7 ∧ b.length = c.length ∧ M = l' ∧ l' < 2 ^ f ∧ termGo f a b l' m = termGo 200 [1] c l m
    refine s_seq ⟨Iv, ⟨l, [1], c, l, 200, p3, pc, _, w3', CtAt.mono w3'.fr0 (show CtAt K E.C_Trade H1 (.ref p3) (.s p3 (iL [1])) from b1), CtAt.mono (e1.trans w3'.fr0) a1, ⟨by simp, fun x hx => by rw [List.mem_singleton.mp hx]; decide⟩, sc, by simp, by simp, rfl, rfl, hl, rfl⟩, ?_⟩
    rintro M σ' H' ⟨a, b, l', f, p3, p4, c6, w4, b3, b4, sa, sb, la, la7, lb, hM, hf, ht⟩
    have hM := hM.symm
    subst hM
    refine (et_test (ev_i0 (ev_var (i := 5) w4 rfl) ev_int (fun _ => .bl _))) H' (Same.refl H') _ fun H5 e5 => ?_
    have w5 := w4.mono e5
    have b3' := CtAt.mono e5 b3
    have b4' := CtAt.mono e5 b4
    by_cases h0 : l' = 0
    · subst h0
      rw [if_neg (by decide)]
      have ea : termGo f a b 0 m = a := by cases f <;> rfl
      have hat : atI (iL a) ((0 : Nat) : Int) = some (.int (a.getD 0 0)) := atI_nat (by
        rw [iL_get, List.getD_eq_getElem?_getD, List.getElem?_eq_getElem (show 0 < a.length by omega)]
        rfl)
      refine s_ret w5 (c := .d (.int (a.getD 0 0 % m))) (ev_iC (ev_ixS (ev_asN (ev_var (i := 3) w5 rfl) b3') ev_int hat) (ev_var (i := 2) w5 rfl) (by show (0 : Int) < m; omega) (fun _ => .int _)) fun v H6 w6 t6 => q v H6 (e1.trans w6.fr0) ?_
      unfold termL
      rw [← ht, ea]
      exact t6
    · rw [if_pos (by
        have : (0 : Int) < (l' : Nat) := by omega
        exact decide_eq_true this)]
      obtain ⟨f, rfl⟩ : ∃ g, f = g + 1 := by
        cases f with
        | zero => exact absurd hf (by simp; omega)
        | succ g => exact ⟨g, rfl⟩
      refine ⟨Iv (l' / 2), fun σ'' H'' h => ⟨l' / 2, by omega, h⟩, ?_⟩
      have sl := sb.1
      refine q_rawN (K := K) (C := E.C_Trade) (ds := iL (chgSL b)) (en_call (ea_consS (ev_asN (ev_var (i := 4) w5 rfl) b4') ea_nil) ⟨b, sl, rfl, rfl⟩) fun p6 H6 hp6 e6 b6 => ?_
      have w6 : Wd K E.C_Trade [] [] H1 H6 _ [.s pc (iL c), .d (.int (l : Nat)), .d (.int m), .r (.ref p3), .r (.ref p4), .d (.int (l' : Nat)), .r (.ref p6)] := (w5.mono e6).set 6 (v := .ref p6) (c := .r (.ref p6)) rfl
      have so := chgSL_sm sb
      have lo := chgSL_len b
      have l1 : (mulL a (chgSL b) m).length = a.length + c.length - 1 := by unfold mulL; rw [mulOut_len, lo, lb]
      have l2 : (mulL b (chgSL b) m).length = c.length + c.length - 1 := by unfold mulL; rw [mulOut_len, lo, lb]
      have hr2 : l' % 2 ≤ 1 := by omega
      have n1 := pick_len (mulL a (chgSL b) m) (l' % 2) hr2 (by omega)
      have n2 := pick_len0 (mulL b (chgSL b) m) (by omega)
      refine q_rawN (K := K) (C := E.C_Trade) (ds := iL (pickG (mulL a (chgSL b) m) (some ((l' % 2 : Nat) : Int)) (some 2))) (en_cast (en_slK (ds := iL (mulL a (chgSL b) m)) (lo := some ((l' % 2 : Nat) : Int)) (st := 2) (en_call (ea_consS (ev_asN (ev_var (i := 3) w6 rfl) (CtAt.mono e6 b3')) (ea_consS (p := p6) (ev_asN (ev_var (i := 6) w6 rfl) (show CtAt K E.C_Trade H6 (.ref p6) (.s p6 (iL (chgSL b))) from b6)) (ea_cons (ev_var (i := 2) w6 rfl) ea_nil))) ⟨a, chgSL b, m, sa, so, la, m1, rfl, rfl⟩) (eo_some (ev_d (ev_iC (K := K) (C := E.C_Trade) (k := ((l' : Nat) : Int)) (j := 2) (ev_var (i := 5) w6 rfl) ev_int (show (0 : Int) < 2 by decide) (fun _ => .int _)) (by rw [Int.natCast_emod]; rfl))) (eo_some (ev_int (K := K) (C := E.C_Trade))) (by decide) (by rw [pick_iL, iL_len, n1]; omega)) (pick_iL _ _ _)) fun p7 H7 hp7 e7 b7 => ?_
      have w7 : Wd K E.C_Trade [] [] H1 H7 _ [.s pc (iL c), .d (.int (l : Nat)), .d (.int m), .r (.ref p7), .r (.ref p4), .d (.int (l' : Nat)), .r (.ref p6)] := (w6.mono e7).set 3 (v := .ref p7) (c := .r (.ref p7)) rfl
      refine q_rawN (K := K) (C := E.C_Trade) (ds := iL (pickG (mulL b (chgSL b) m) none (some 2))) (en_cast (en_slK (ds := iL (mulL b (chgSL b) m)) (lo := none) (st := 2) (en_call (ea_consS (ev_asN (ev_var (i := 4) w7 rfl) (CtAt.mono (e6.trans e7) b4')) (ea_consS (p := p6) (ev_asN (ev_var (i := 6) w7 rfl) (CtAt.mono e7 (show CtAt K E.C_Trade H6 (.ref p6) (.s p6 (iL (chgSL b))) from b6))) (ea_cons (ev_var (i := 2) w7 rfl) ea_nil))) ⟨b, chgSL b, m, sb, so, by omega, m1, rfl, rfl⟩) eo_none (eo_some (ev_int (K := K) (C := E.C_Trade))) (by decide) (by rw [pick_iL, iL_len, n2]; omega)) (pick_iL _ _ _)) fun p8 H8 hp8 e8 b8 => ?_
      have w8 : Wd K E.C_Trade [] [] H1 H8 _ [.s pc (iL c), .d (.int (l : Nat)), .d (.int m), .r (.ref p7), .r (.ref p8), .d (.int (l' : Nat)), .r (.ref p6)] := (w7.mono e8).set 4 (v := .ref p8) (c := .r (.ref p8)) rfl
      have r8 : Wd K E.C_Trade [] [] H8 H8 _ [.s pc (iL c), .d (.int (l : Nat)), .d (.int m), .r (.ref p7), .r (.ref p8), .d (.int (l' : Nat)), .r (.ref p6)] := w8.re
      refine (ev_d (e := .int ((l' / 2 : Nat) : Int)) (ev_iC (k := ((l' : Nat) : Int)) (j := 2) (ev_var (i := 5) w8 rfl) ev_int (⟨by decide, by decide⟩ : CDiv _ 2) (fun _ => .int _)) (by rw [Int.natCast_ediv]; rfl) : EvC K E.C_Trade _ _ H8 _) H8 (Same.refl H8) _ fun v9 H9 e9 t9 => ?_
      have w9 := (w8.mono e9).set 5 (c := .d (.int ((l' / 2 : Nat) : Int))) t9
      refine ⟨pickG (mulL a (chgSL b) m) (some ((l' % 2 : Nat) : Int)) (some 2), pickG (mulL b (chgSL b) m) none (some 2), l' / 2, f, p7, p8, _, w9, CtAt.mono (e8.trans e9) (show CtAt K E.C_Trade H7 (.ref p7) (.s p7 _) from b7), CtAt.mono e9 (show CtAt K E.C_Trade H8 (.ref p8) (.s p8 _) from b8), ⟨by rw [n1]; omega, fun x hx => mulOut_sm m1 m9 _ x (pick_mem hx)⟩, ⟨by rw [n2]; omega, fun x hx => mulOut_sm m1 m9 _ x (pick_mem hx)⟩, by rw [n1]; omega, by rw [n1]; omega, by rw [n2]; omega, rfl, by rw [Nat.pow_succ] at hf; omega, ?_⟩
      rw [← ht]
      show _ = (if l' = 0 then a else _)
      rw [if_neg h0]
abbrev A_how_many_by (as : List Ag) (d : PyData) : Prop := ∃ (n : Nat) (ps : List (Int × Int)) (l : Nat) (m : Int), PairsOk n ps ∧ 1 ≤ n ∧ n ≤ 6 ∧ l ≤ 10 ^ 30 ∧ 1 ≤ m ∧ m ≤ 1000000000 ∧ as = [.c (.t n ps), .c (.d (.int (l : Nat))), .c (.d (.int m))] ∧ d = .int (termL (scL n ps) l m)
theorem scL_sm (n : Nat) (h : n ≤ 6) (ps : List (Int × Int)) : Sm (scL n ps) ∧ (scL n ps).length = n + 1 := by
  have len : (scL n ps).length = n + 1 := by unfold scL; rw [List.length_map, List.length_range]
  refine ⟨⟨by omega, fun x hx => ?_⟩, len⟩
  unfold scL at hx
  obtain ⟨j, _, rfl⟩ := List.mem_map.mp hx
  have h1 := cs_wide h ps j
  have h2 : (2 : Nat) ^ 7 = 128 := rfl
  omega
theorem ok_how_many_by (E : Nv K mg) : FnOk P w K mg base CX0 30 E.a_how_many_by E.d_how_many_by ["trade", "length", "modulus"] (spC K E.C_Trade A_how_many_by) := by
  refine E.F_how_many_by.ok sc_how_many_by (fun vs H Q _ h => ?_) (fun cdv A outer s H vs Q _ hr h => ?_)
  · obtain ⟨as, d, ha, ⟨_, _, _, _, _, _, _, _, _, _, rfl, _⟩, _⟩ := h
    exact ha.length
  · obtain ⟨as, d, ha, ⟨n, ps, l, m, hok, n1, n6, hl, m1, m9, rfl, rfl⟩, q⟩ := h
    obtain ⟨v1, v2, v3, rfl, a1, a2, a3⟩ := ha.three
    refine ⟨_, (pss_cons (ps_expr (pe_call (ok_check_trade E) (hr.mono (by first | decide | omega)) (by rfl) E.m_check_trade E.F_check_trade.kp E.b_check_trade .nil pass0 (pa_cons (pv 0) pa_nil)))
      (pss_cons (ps_if (pt_not (pt_truK K (pe_call (ok_is_whole E) (hr.mono (by first | decide | omega)) (by rfl) E.m_is_whole E.F_is_whole.kp E.b_is_whole .nil pass0 (pa_cons (pv 1) (pa_cons pe_int (pa_cons (pe_glob (v := .int 1000000000000000000000000000000) (by rfl) E.c_MOST_LENGTH_BY ⟨_, rfl⟩) pa_nil)))) (fun _ => rfl))) (pss_one ps_never) pss_nil)
      (pss_cons (ps_if (pt_not (pt_truK K (pe_call (ok_is_whole E) (hr.mono (by first | decide | omega)) (by rfl) E.m_is_whole E.F_is_whole.kp E.b_is_whole .nil pass0 (pa_cons (pv 2) (pa_cons pe_int (pa_cons (pe_glob (v := .int 1000000000) (by rfl) E.c_MOST_MODULUS ⟨_, rfl⟩) pa_nil)))) (fun _ => rfl))) (pss_one ps_never) pss_nil)
      (pss_one (ps_ret (pe_call (ok_term_by E) (hr.mono (by first | decide | omega)) (by rfl) E.m_term_by E.F_term_by.kp E.b_term_by .nil pass0 (pa_cons (pe_call (ok_signed_counts E) (hr.mono (by first | decide | omega)) (by rfl) E.m_signed_counts E.F_signed_counts.kp E.b_signed_counts .nil pass0 (pa_cons (pv 0) pa_nil)) (pa_cons (pv 1) (pa_cons (pv 2) pa_nil))))))))), ?_⟩
    have w0 : Wd K E.C_Trade [] [] H H _ [.t n ps, .d (.int (l : Nat)), .d (.int m)] := Wd.start3 (N := N_how_many_by) (c1 := .t n ps) a1 a2 a3
    refine q_drop w0 (ev_call (by walk_at "ea") ⟨_, _, rfl, rfl⟩) fun H1 w1 => ?_
    have hl' : ((l : Nat) : Int) ≤ 1000000000000000000000000000000 := by
      have h1 := Int.ofNat_le.mpr hl
      have h2 : (((10 ^ 30 : Nat)) : Int) = 1000000000000000000000000000000 := by decide +kernel
      rw [h2] at h1
      exact h1
    refine s_when w1 (b := false) (et_cast (et_not (et_truB (ev_call (ea_cons (ev_var (i := 1) w1 rfl) (ea_cons ev_int (ea_cons ev_int ea_nil))) ⟨_, _, _, rfl, rfl⟩))) (by show (!(decide (0 ≤ ((l : Nat) : Int)) && decide (((l : Nat) : Int) ≤ 1000000000000000000000000000000))) = false; rw [decide_eq_true (show (0 : Int) ≤ ((l : Nat) : Int) by omega), decide_eq_true hl']; rfl)) (fun z => by cases z) (fun _ H2 w2 => ?_)
    refine s_when w2 (b := false) (et_cast (et_not (et_truB (ev_call (ea_cons (ev_var (i := 2) w2 rfl) (ea_cons ev_int (ea_cons ev_int ea_nil))) ⟨_, _, _, rfl, rfl⟩))) (by show (!(decide (1 ≤ m) && decide (m ≤ 1000000000))) = false; rw [decide_eq_true m1, decide_eq_true m9]; rfl)) (fun z => by cases z) (fun _ H3 w3 => ?_)
    obtain ⟨sm, len⟩ := scL_sm n n6 ps
    exact s_retQ w3 q (ev_call (ea_consN (en_call (ea_cons (ev_var (i := 0) w3 rfl) ea_nil) ⟨n, ps, n6, rfl, rfl⟩) (ea_cons (ev_var (i := 1) w3 rfl) (ea_cons (ev_var (i := 2) w3 rfl) ea_nil))) ⟨scL n ps, l, m, sm, by omega, by omega, Nat.lt_of_le_of_lt hl (by decide +kernel), m1, m9, rfl, rfl⟩)
end
end K1
set_option maxRecDepth 10000000
namespace K1
open PySem PySem.Spec PyProof.Rows L2 Pt
theorem mulIn_get (a b : List Int) (m : Int) (i : Nat) : ∀ (j : Nat) (f : List Int) (k : Nat), i + j ≤ f.length → tm (mulIn a b m i j f) k % m = (tm f k + if i ≤ k ∧ k < i + j then tm a i * tm b (k - i) else 0) % m
  | 0, f, k, _ => by
    show tm f k % m = _
    rw [if_neg (by omega), Int.add_zero]
  | j + 1, f, k, h => by
    have ih := mulIn_get a b m i j f
    have hl : i + j < (mulIn a b m i j f).length := by rw [mulIn_len]; omega
    show (List.set _ _ _).getD k 0 % m = _
    rw [List.getD_eq_getElem?_getD, List.getElem?_set]
    by_cases e : i + j = k
    · subst e
      rw [if_pos rfl, if_pos hl, if_pos ⟨by omega, by omega⟩]
      have := ih (i + j) (by omega)
      rw [if_neg (by omega), Int.add_zero] at this
      rw [Nat.add_sub_cancel_left]
      show ((tm (mulIn a b m i j f) (i + j) + tm a i * tm b j) % m) % m = _
      rw [Int.emod_emod, Int.add_emod, this, ← Int.add_emod]
    · rw [if_neg e, ← List.getD_eq_getElem?_getD]
      show tm (mulIn a b m i j f) k % m = _
      rw [ih k (by omega)]
      by_cases z : i ≤ k ∧ k < i + j
      · rw [if_pos z, if_pos ⟨z.1, by omega⟩]
      · rw [if_neg z, if_neg (by omega)]
theorem mulOut_get (a b : List Int) (m : Int) (hb : 1 ≤ b.length) : ∀ (i k : Nat), i ≤ a.length → tm (mulOut a b m i) k % m = (((List.range i).map fun t => if t ≤ k then tm a t * tm b (k - t) else 0).sum) % m
  | 0, k, _ => by
    show (List.replicate _ (0 : Int)).getD k 0 % m = 0 % m
    rw [List.getD_eq_getElem?_getD, List.getElem?_replicate]
    split <;> rfl
  | i + 1, k, h => by
    show tm (mulIn a b m i b.length (mulOut a b m i)) k % m = _
    rw [mulIn_get a b m i b.length _ k (by rw [mulOut_len]; omega), List.range_succ, List.map_append, sum_app, Int.add_emod, mulOut_get a b m hb i k (by omega), ← Int.add_emod]
    congr 2
    show _ = (if i ≤ k then tm a i * tm b (k - i) else 0) + 0
    rw [Int.add_zero]
    by_cases z : i ≤ k
    · rw [if_pos z]
      by_cases y : k < i + b.length
      · rw [if_pos ⟨z, y⟩]
      · rw [if_neg (by omega)]
        have : tm b (k - i) = 0 := by
          show b.getD _ 0 = 0
          rw [List.getD_eq_getElem?_getD, List.getElem?_eq_none (by omega)]
          rfl
        rw [this, Int.mul_zero]
    · rw [if_neg z, if_neg (by omega)]
theorem mul_get (a b : List Int) (m : Int) (hb : 1 ≤ b.length) (k : Nat) : tm (mulL a b m) k % m = cvf (tm a) (tm b) k % m := by
  unfold mulL
  rw [mulOut_get a b m hb a.length k (Nat.le_refl _)]
  congr 1
  have e1 := sum_cut (fun t => if t ≤ k then tm a t * tm b (k - t) else 0) a.length (max a.length (k + 1)) (by omega) fun i hi => by
    have : tm a i = 0 := by
      show a.getD _ 0 = 0
      rw [List.getD_eq_getElem?_getD, List.getElem?_eq_none (by omega)]
      rfl
    show (if i ≤ k then tm a i * tm b (k - i) else 0) = 0
    rw [this, Int.zero_mul]
    split <;> rfl
  have e2 := sum_cut (fun t => if t ≤ k then tm a t * tm b (k - t) else 0) (k + 1) (max a.length (k + 1)) (by omega) fun i hi => by
    show (if i ≤ k then tm a i * tm b (k - i) else 0) = 0
    rw [if_neg (by omega)]
  rw [← e1, e2]
  unfold cvf
  refine sum_congr fun j hj => ?_
  have := List.mem_range.mp hj
  rw [if_pos (by omega)]
theorem fm_get {α : Type} (xs : List α) : ∀ (is : List Nat), (∀ i ∈ is, i < xs.length) → ∀ k : Nat, (is.filterMap (xs[·]?))[k]? = is[k]?.bind (xs[·]?)
  | [], _, k => by simp
  | i :: is, h, k => by
    rw [List.filterMap_cons, List.getElem?_eq_getElem (h i List.mem_cons_self)]
    cases k with
    | zero =>
      show some _ = (some i).bind _
      show _ = xs[i]?
      rw [List.getElem?_eq_getElem (h i List.mem_cons_self)]
    | succ k =>
      show (is.filterMap (xs[·]?))[k]? = is[k]?.bind _
      exact fm_get xs is (fun j m => h j (List.mem_cons_of_mem _ m)) k
theorem pick_get (l : List Int) (r : Nat) (hr : r ≤ 1) (hx : 1 ≤ l.length) (s : Nat) : tm (pickG l (some (r : Int)) (some 2)) s = tm l (2 * s + r) := by
  have b : sliceBounds (some (r : Int)) none (some 2) l.length = ((r : Int), (l.length : Int), 2) := by
    unfold sliceBounds
    simp
    omega
  show (pickG l (some (r : Int)) (some 2)).getD s 0 = l.getD _ 0
  unfold pickG
  rw [b]
  dsimp only
  have hin : ∀ i ∈ sliceRange (r : Int) (l.length : Int) 2, i < l.length := fun i hi => by
    unfold sliceRange at hi
    obtain ⟨k, hk, rfl⟩ := List.mem_map.mp hi
    have := List.mem_range.mp hk
    rw [if_pos (by decide)] at this
    split at this <;> omega
  rw [List.getD_eq_getElem?_getD, List.getD_eq_getElem?_getD, fm_get l _ hin s]
  unfold sliceRange
  rw [List.getElem?_map, if_pos (by decide)]
  by_cases h : 2 * s + r < l.length
  · rw [List.getElem?_range (by split <;> omega)]
    show (l[((r : Int) + 2 * ((s : Nat) : Int)).toNat]?).getD 0 = _
    rw [show ((r : Int) + 2 * ((s : Nat) : Int)).toNat = 2 * s + r by omega]
  · rw [List.getElem?_eq_none (l := List.range _) (by rw [List.length_range]; split <;> omega), List.getElem?_eq_none (l := l) (by omega)]
    rfl
theorem pick_get0 (l : List Int) (hx : 1 ≤ l.length) (s : Nat) : tm (pickG l none (some 2)) s = tm l (2 * s) := by
  have e : pickG l none (some 2) = pickG l (some ((0 : Nat) : Int)) (some 2) := by
    unfold pickG sliceBounds
    simp
    rw [show max (0 : Int) (min 0 (l.length : Int)) = 0 by omega]
  rw [e, pick_get l 0 (by decide) hx s]
  rfl
theorem chg_alt (l : List Int) : tm (chgSL l) = alt (tm l) := funext fun j => by
  show (chgSL l).getD j 0 = (if j % 2 = 0 then 1 else -1) * l.getD j 0
  unfold chgSL
  rw [List.getD_eq_getElem?_getD, List.getElem?_map]
  by_cases h : j < l.length
  · rw [List.getElem?_range h]
    show l.getD j 0 * sgI j = _
    rw [Int.mul_comm]
    rfl
  · rw [List.getElem?_eq_none (l := List.range _) (by rw [List.length_range]; omega)]
    show (0 : Int) = _
    rw [List.getD_eq_getElem?_getD, List.getElem?_eq_none (l := l) (by omega)]
    show (0 : Int) = _ * 0
    rw [Int.mul_zero]
theorem cvf_zero (f g : Nat → Int) : cvf f g 0 = f 0 * g 0 := by
  show f 0 * g (0 - 0) + 0 = _
  rw [Int.add_zero]
theorem termGo_ser {m : Int} : ∀ (f : Nat) (a b : List Int) (l : Nat) (F : Nat → Int), 1 ≤ a.length → 2 ≤ b.length → l < 2 ^ f → Ser m (tm b) (tm a) F → tm b 0 % m = 1 % m → (termGo f a b l m).getD 0 0 % m = F l % m := fun f => by
  have base : ∀ (a b : List Int) (F : Nat → Int), Ser m (tm b) (tm a) F → tm b 0 % m = 1 % m → a.getD 0 0 % m = F 0 % m := fun a b F h hb => by
    have h0 := h 0
    rw [cvf_zero, Int.mul_emod, hb, ← Int.mul_emod, Int.one_mul] at h0
    exact h0.symm
  induction f with
  | zero =>
    intro a b l F _ _ hl h hb
    have : l = 0 := by simpa using hl
    subst this
    exact base a b F h hb
  | succ f ih =>
    intro a b l F ha hb2 hl h hb
    show (if l = 0 then a else _).getD 0 0 % m = _
    by_cases h0 : l = 0
    · subst h0
      rw [if_pos rfl]
      exact base a b F h hb
    · rw [if_neg h0]
      have lo := chgSL_len b
      have l1 : (mulL a (chgSL b) m).length = a.length + b.length - 1 := by unfold mulL; rw [mulOut_len, lo]
      have l2 : (mulL b (chgSL b) m).length = b.length + b.length - 1 := by unfold mulL; rw [mulOut_len, lo]
      have hr2 : l % 2 ≤ 1 := by omega
      have n1 := pick_len (mulL a (chgSL b) m) (l % 2) hr2 (by omega)
      have n2 := pick_len0 (mulL b (chgSL b) m) (by omega)
      have hC : ∀ s, tm (pickG (mulL b (chgSL b) m) none (some 2)) s % m = cvf (tm b) (alt (tm b)) (2 * s) % m := fun s => by
        rw [pick_get0 _ (by omega), mul_get _ _ _ (by omega), chg_alt]
      have hD : ∀ s, tm (pickG (mulL a (chgSL b) m) (some ((l % 2 : Nat) : Int)) (some 2)) s % m = cvf (tm a) (alt (tm b)) (2 * s + l % 2) % m := fun s => by
        rw [pick_get _ _ hr2 (by omega), mul_get _ _ _ (by omega), chg_alt]
      have hs := h.half hr2 hC hD
      have r := ih _ _ (l / 2) _ (by rw [n1]; omega) (by rw [n2]; omega) (by rw [Nat.pow_succ] at hl; omega) hs (by
        rw [hC 0]
        show cvf (tm b) (alt (tm b)) 0 % m = _
        rw [cvf_zero]
        show (tm b 0 * (1 * tm b 0)) % m = _
        rw [Int.one_mul, Int.mul_emod, hb, ← Int.mul_emod]
        rfl)
      rw [r]
      show F (2 * (l / 2) + l % 2) % m = _
      rw [show 2 * (l / 2) + l % 2 = l by omega]
theorem sc_get (n : Nat) (ps : List (Int × Int)) (j : Nat) : tm (scL n ps) j = cS (grL ps n) j := by
  show (scL n ps).getD j 0 = _
  unfold scL
  rw [List.getD_eq_getElem?_getD, List.getElem?_map]
  by_cases h : j < n + 1
  · rw [List.getElem?_range h]
    rfl
  · rw [List.getElem?_eq_none (l := List.range _) (by rw [List.length_range]; omega)]
    show (0 : Int) = _
    unfold cS
    rw [List.filter_eq_nil_iff.mpr fun S hS => by have := gr_size ps n S hS; simp; omega]
    rfl
theorem cS_far {n : Nat} {ps : List (Int × Int)} {j : Nat} (h : n < j) : cS (grL ps n) j = 0 := by
  unfold cS
  rw [List.filter_eq_nil_iff.mpr fun S hS => by have := gr_size ps n S hS; simp; omega]
  rfl
theorem sum_cut2 (f : Nat → Int) (m : Nat) : ∀ n : Nat, m ≤ n → (∀ i, m ≤ i → i < n → f i = 0) → ((List.range n).map f).sum = ((List.range m).map f).sum
  | 0, h, _ => by rw [Nat.le_zero.mp h]
  | n + 1, h, hf => by
    by_cases e : m = n + 1
    · rw [e]
    · rw [List.range_succ, List.map_append, sum_app, sum_cut2 f m n (by omega) fun i h1 h2 => hf i h1 (by omega)]
      have := hf n (by omega) (by omega)
      simp [this]
theorem cn_ser {n : Nat} {ps : List (Int × Int)} (hok : PairsOk (n : Nat) ps) (m : Int) : Ser m (tm (scL n ps)) (tm [1]) fun i => ((cnL n ps i 0 : Nat) : Int) := fun i => by
  congr 1
  cases i with
  | zero =>
    rw [cvf_zero, sc_get, cS_zero (gr_groups (n := (n : Nat)) (ps := ps) n)]
    rfl
  | succ i =>
    have r := cn_rule hok (Nat.succ_pos i)
    have e : sumS' n ps (i + 1) (min (i + 1) n) = sumS' n ps (i + 1) (i + 1) := by
      unfold sumS'
      exact (sum_cut2 _ (min (i + 1) n) (i + 1) (Nat.min_le_left _ _) fun j hj hj2 => by
        show cS (grL ps n) (j + 1) * ((cnL n ps (i + 1 - (j + 1)) 0 : Nat) : Int) = 0
        by_cases z : n < j + 1
        · rw [cS_far z, Int.zero_mul]
        · omega).symm
    have e2 : cvf (tm (scL n ps)) (fun i => ((cnL n ps i 0 : Nat) : Int)) (i + 1) = ((cnL n ps (i + 1) 0 : Nat) : Int) + sumS' n ps (i + 1) (i + 1) := by
      unfold cvf
      rw [List.range_succ_eq_map, List.map_cons, List.sum_cons, List.map_map, sc_get, cS_zero (gr_groups (n := (n : Nat)) (ps := ps) n), Int.one_mul]
      congr 1
      unfold sumS'
      refine sum_congr fun j _ => ?_
      show tm (scL n ps) (j + 1) * _ = _
      rw [sc_get]
    rw [e2, r, e]
    show - _ + _ = (0 : Int)
    omega
theorem termL_cn {n : Nat} {ps : List (Int × Int)} (hok : PairsOk (n : Nat) ps) (h1 : 1 ≤ n) {l : Nat} (hl : l ≤ 10 ^ 30) (m : Int) : termL (scL n ps) l m = ((cnL n ps l 0 : Nat) : Int) % m := by
  have hlen : (scL n ps).length = n + 1 := by unfold scL; rw [List.length_map, List.length_range]
  unfold termL
  refine termGo_ser 200 [1] (scL n ps) l _ (Nat.le_refl _) (by omega) (Nat.lt_of_le_of_lt hl (by decide +kernel)) (cn_ser hok m) ?_
  rw [sc_get, cS_zero (gr_groups (n := (n : Nat)) (ps := ps) n)]
end K1
set_option maxRecDepth 10000000
namespace K1
open PySem PySem.Spec PyProof.Rows L2 Pt
local macro_rules
  | `(tactic| walk_at "sz") => `(tactic| first
    | omega
    | decide
    | (simp; omega)
    | (simp [iL, row, pairsD]; omega))
  | `(tactic| walk_at "ea") => `(tactic| first
    | (with_reducible exact ea_nil)
    | ((with_reducible apply ea_consL); (focus (walk_at "ev")); (focus (walk_at "ea")))
    | ((with_reducible apply ea_consS); (focus (walk_at "ev")); (focus (walk_at "ea")))
    | ((with_reducible apply ea_cons); (focus (walk_at "ev")); (focus (walk_at "ea")))
    | ((with_reducible apply ea_consN); (focus (walk_at "en")); (focus (walk_at "ea"))))
  | `(tactic| walk_at "ed") => `(tactic| first
    | (with_reducible exact ed_nil)
    | ((with_reducible apply ed_cons); (focus (walk_at "ev")); (focus (walk_at "ed"))))
  | `(tactic| walk_at "en") => `(tactic| first
    | ((with_reducible apply en_lst); (focus (walk_at "ed")); (focus (simp)))
    | ((with_reducible apply en_listT); (focus (walk_at "ev")))
    | ((with_reducible apply en_addL); (focus (walk_at "ev")); (focus (walk_at "en")); (focus (walk_at "sz")))
    | ((with_reducible apply en_addN); (focus (walk_at "en")); (focus (walk_at "en")); (focus (walk_at "sz")))
    | ((with_reducible apply en_slL); (focus (walk_at "ev")); (focus (walk_at "eo")); (focus (walk_at "eo"))))
  | `(tactic| walk_at "eo") => `(tactic| first
    | (with_reducible exact eo_none)
    | ((with_reducible apply eo_some); (focus (walk_at "ev"))))
  | `(tactic| walk_at "et") => `(tactic| first
    | (with_reducible exact et_yes)
    | ((with_reducible apply et_test); (focus (walk_at "ev")))
    | ((with_reducible apply et_B); (focus (walk_at "ev")))
    | ((with_reducible apply et_truB); (focus (walk_at "ev")))
    | ((with_reducible apply et_truT); (focus (walk_at "ev")))
    | ((with_reducible apply et_not); (focus (walk_at "et")))
    | ((with_reducible apply et_and); (focus (walk_at "et")); (focus (intro _; walk_at "et")))
    | ((with_reducible apply et_or); (focus (walk_at "et")); (focus (intro _; walk_at "et"))))
  | `(tactic| walk_at "var") => `(tactic| first
    | ((with_reducible apply ev_varD); (focus (assumption)); (focus (rfl)))
    | ((with_reducible apply ev_varL); (focus (assumption)); (focus (rfl)))
    | ((with_reducible apply ev_varS); (focus (assumption)); (focus (rfl)))
    | ((with_reducible apply ev_varT); (focus (assumption)); (focus (rfl)))
    | ((with_reducible apply ev_varH); (focus (assumption)); (focus (rfl)))
    | ((with_reducible apply ev_varZ); (focus (assumption)); (focus (rfl))))
  | `(tactic| walk_at "ev") => `(tactic| first
    | walk_at "var"
    | (with_reducible exact ev_int)
    | (with_reducible exact ev_bl)
    | (with_reducible exact ev_str)
    | (with_reducible exact ev_non)
    | ((with_reducible apply ev_letters); (focus (walk_at "ev")))
    | ((with_reducible apply ev_pairs); (focus (walk_at "ev")))
    | ((with_reducible apply ev_addI); (focus (walk_at "ev")); (focus (walk_at "ev")))
    | ((with_reducible apply ev_addT); (focus (walk_at "ev")); (focus (walk_at "ev")); (focus (walk_at "sz")))
    | ((with_reducible apply ev_i0); (focus (walk_at "ev")); (focus (walk_at "ev")); (focus (first | exact fun _ => .int _ | exact fun _ => .bl _)))
    | ((with_reducible apply ev_iC); (focus (walk_at "ev")); (focus (walk_at "ev")); (focus (first | assumption | walk_at "cond")); (focus (exact fun _ => .int _)))
    | ((with_reducible apply ev_chain); (focus (walk_at "ev")); (focus (walk_at "ev")); (focus (walk_at "ev")))
    | ((with_reducible apply ev_eqI); (focus (walk_at "ev")); (focus (walk_at "ev")))
    | ((with_reducible apply ev_neI); (focus (walk_at "ev")); (focus (walk_at "ev")))
    | ((with_reducible apply ev_eqR); (focus (walk_at "ev")); (focus (walk_at "ev")))
    | ((with_reducible apply ev_neR); (focus (walk_at "ev")); (focus (walk_at "ev")))
    | ((with_reducible apply ev_isN); (focus (walk_at "ev")))
    | ((with_reducible apply ev_notN); (focus (walk_at "ev")))
    | ((with_reducible apply ev_in2); (focus (walk_at "ev")); (focus (walk_at "ev")); (focus (walk_at "ev")))
    | ((with_reducible apply ev_inP); (focus (walk_at "ev")); (focus (walk_at "ev")))
    | ((with_reducible apply ev_tup); (focus (walk_at "ed")); (focus (simp)))
    | ((with_reducible apply ev_lenT); (focus (walk_at "ev")))
    | ((with_reducible apply ev_lenL); (focus (walk_at "ev")))
    | ((with_reducible apply ev_lenS); (focus (walk_at "ev")))
    | ((with_reducible apply ev_lenN); (focus (walk_at "en")))
    | ((with_reducible apply ev_max2); (focus (walk_at "ev")); (focus (walk_at "ev")))
    | ((with_reducible apply ev_min2); (focus (walk_at "ev")); (focus (walk_at "ev")))
    | ((with_reducible apply ev_int1); (focus (walk_at "ev")))
    | ((with_reducible apply ev_tupleL); (focus (walk_at "ev")))
    | ((with_reducible apply ev_tupleN); (focus (walk_at "en")))
    | ((with_reducible apply ev_countT); (focus (walk_at "ev")); (focus (walk_at "ev")))
    | ((with_reducible apply ev_andV); (focus (walk_at "ev")); (focus (intro _; walk_at "ev")))
    | ((with_reducible apply ev_orV); (focus (walk_at "ev")); (focus (intro _; walk_at "ev")))
    | ((with_reducible apply ev_notV); (focus (walk_at "ev"))))
theorem allR_len (n : Nat) : ∀ k, (allR n k).length = n ^ k
  | 0 => rfl
  | k + 1 => by
    unfold allR
    have : ∀ L : List (List Int), (L.flatMap fun r => (List.range n).map fun a : Nat => r ++ [(a : Int)]).length = L.length * n := fun L => by
      induction L with
      | nil => simp
      | cons r L ih => rw [List.flatMap_cons, List.length_append, ih, List.length_map, List.length_range, List.length_cons, Nat.add_mul]; omega
    rw [this, allR_len n k, Nat.pow_succ]
section
variable {P : Program} {w : World} {K : PySem.W.Frag} {mg : Str → Option Value} {base : Heap}
abbrev A_law_every (as : List Ag) (d : PyData) : Prop := ∃ (n k : Nat), n ≤ 6 ∧ k ≤ 10 ∧ n ^ k ≤ 1000 ∧ as = [.c (.d (.int (n : Nat))), .c (.d (.int (k : Nat)))] ∧ d = .list ((allR n k).map row)
theorem ok__law_every (E : Nv K mg) : FnOk P w K mg base CX0 10 E.a__law_every E.d__law_every ["_law_letters", "_law_length"] (spC K E.C_Trade A_law_every) := by
  refine E.F__law_every.ok sc__law_every (fun vs H Q _ h => ?_) (fun cdv A outer s H vs Q _ hr h => ?_)
  · obtain ⟨as, d, ha, ⟨_, _, _, _, _, rfl, _⟩, _⟩ := h
    exact ha.length
  · obtain ⟨as, d, ha, ⟨n, k, h6, hk, hnk, rfl, rfl⟩, q⟩ := h
    obtain ⟨v1, v2, rfl, a1, a2⟩ := ha.two
    refine ⟨_, (pss_cons (ps_set (i := 2) sc__law_every.nd rfl (.inl rfl) (Pt.pe_lock (pe_lst (pa_cons (pe_tupF pa_nil) pa_nil))))
      (pss_cons (ps_for PassesOwn.never rfl (pi_range1 (by rfl) E.n_range (pa_cons (pv 1) pa_nil)) (pg_name (i := 3) sc__law_every.nd rfl (.inl rfl))
      (pss_cons (ps_set (i := 4) sc__law_every.nd rfl (.inl rfl) (Pt.pe_lock (pe_lst pa_nil)))
      (pss_cons (ps_for PassesOwn.never rfl (pi_listK K (pv 2)) (pg_name (i := 5) sc__law_every.nd rfl (.inr rfl))
      (pss_one (ps_set (i := 4) sc__law_every.nd rfl (.inl rfl) (Pt.pe_lock (pe_op (op_catSK K) (pv 4) (pe_lc (own := [("_law_a", 6)]) (g := gName 6) (by rfl) sc__law_every.nd (pi_range1 (by rfl) E.n_range (pa_cons (pv 0) pa_nil)) (blkOk_by (own := [("_law_a", 6)]) (N := N__law_every) (sc := defScope s__law_every) (by decide +kernel)) (fun _ _ _ _ _ => (pg_name (i := 6) sc__law_every.nd rfl (Or.inl rfl))) (fun _ _ _ _ _ => pts_nil) (fun _ _ _ _ _ => (pe_op (op_addK K) (pv 5) (pe_tupF (pa_cons (pv 6) pa_nil))))))))))
      (pss_one (ps_set (i := 2) sc__law_every.nd rfl (.inl rfl) (pv 4))))))
      (pss_one (ps_ret (pv 2))))), ?_⟩
    have w0 : Wd K E.C_Trade [] [] H H _ [.d (.int (n : Nat)), .d (.int (k : Nat)), .u, .u, .u, .u, .u] := Wd.start2 (N := N__law_every) (c1 := .d (.int (n : Nat))) (c2 := .d (.int (k : Nat))) a1 a2
    refine q_asgD w0 (d := .list ((allR n 0).map row)) (ev_lock (en_lst (ed_cons (ev_tup ed_nil (Nat.zero_le _)) ed_nil) (Nat.le_of_ble_eq_true rfl))) fun σ1 H1 w1 => ?_
    have w1' : Wd K E.C_Trade [] [] H H1 σ1 [.d (.int (n : Nat)), .d (.int (k : Nat)), .d (.list ((allR n 0).map row)), .u, .u, .u, .u] := w1
    have few : ∀ t, t ≤ k → n ^ t ≤ 1000 := fun t ht => by
      rcases Nat.eq_zero_or_pos n with z | z
      · subst z
        rcases Nat.eq_zero_or_pos t with y | y
        · subst y; decide
        · rw [Nat.zero_pow y]; decide
      · exact Nat.le_trans (Nat.pow_le_pow_right z ht) hnk
    refine q_forR1 w1' (n := (k : Nat)) (ea_cons (ev_var (i := 1) w1' rfl) ea_nil) (by omega) (fun t σ H' => ∃ c3 c4 c5 c6, Wd K E.C_Trade [] [] H H' σ [.d (.int (n : Nat)), .d (.int (k : Nat)), .d (.list ((allR n t).map row)), c3, c4, c5, c6]) (fun H2 w2 => ⟨_, _, _, _, w2⟩) ?_ ?_
    · rintro t σ H' ht ⟨c3, c4, c5, c6, w2⟩
      have w3 : Wd K E.C_Trade [] [] H H' _ [.d (.int (n : Nat)), .d (.int (k : Nat)), .d (.list ((allR n t).map row)), .d (.int (t : Nat)), c4, c5, c6] := w2.set 3 (v := .int (t : Nat)) (c := .d (.int (t : Nat))) (Td.int _)
      refine q_asgD w3 (d := .list []) (ev_lock (en_lst ed_nil (Nat.zero_le _))) fun σ4 H4 w4 => ?_
      have w4' : Wd K E.C_Trade [] [] H H4 σ4 [.d (.int (n : Nat)), .d (.int (k : Nat)), .d (.list ((allR n t).map row)), .d (.int (t : Nat)), .d (.list []), c5, c6] := w4
      have fewt := few t (by omega)
      refine s_seq (s_forDL w4' (ev_var (i := 2) w4' rfl) (fun a j σ H' => ∃ c5 c6, Wd K E.C_Trade [] [(.ref a, .list ((allR n t).map row))] H H' σ [.d (.int (n : Nat)), .d (.int (k : Nat)), .d (.list ((allR n t).map row)), .d (.int (t : Nat)), .d (.list ((((allR n t).take j).flatMap fun r => (List.range n).map fun a : Nat => r ++ [(a : Int)]).map row)), c5, c6]) (fun a H5 w5 => ⟨_, _, w5⟩) (fun a j σ H' ⟨_, _, w5⟩ => w5.gh0) ?_ ?_)
      · rintro a j d v σ' H' hd tv ⟨c5, c6, w5⟩
        have hj : j < (allR n t).length := by
          have := (List.getElem?_eq_some_iff.mp hd).1
          rwa [List.length_map] at this
        have ed : d = row (allR n t)[j] := by
          rw [List.getElem?_map, List.getElem?_eq_getElem hj] at hd
          exact (Option.some.inj hd).symm
        subst ed
        have htk : (allR n t).take (j + 1) = (allR n t).take j ++ [(allR n t)[j]] := List.take_succ_eq_append_getElem hj
        have hrl := (mem_allR.mp (List.getElem_mem hj)).2
        have hbound : (((allR n t).take j).flatMap fun r => (List.range n).map fun a : Nat => r ++ [(a : Int)]).length ≤ 6000 := by
          have : ∀ L : List (List Int), (L.flatMap fun r => (List.range n).map fun a : Nat => r ++ [(a : Int)]).length = L.length * n := fun L => by
            induction L with
            | nil => simp
            | cons r L ih => rw [List.flatMap_cons, List.length_append, ih, List.length_map, List.length_range, List.length_cons, Nat.add_mul]; omega
          rw [this, List.length_take]
          have := allR_len n t
          exact Nat.le_trans (Nat.mul_le_mul (show min j (allR n t).length ≤ 1000 by omega) h6) (by decide)
        refine g_one (i := 5) w5 tv fun σ6 w6 => ?_
        generalize (allR n t)[j] = r at w6 htk hrl
        have w6' : Wd K E.C_Trade [] [(.ref a, .list ((allR n t).map row))] H H' σ6 [.d (.int (n : Nat)), .d (.int (k : Nat)), .d (.list ((allR n t).map row)), .d (.int (t : Nat)), .d (.list ((((allR n t).take j).flatMap fun r => (List.range n).map fun a : Nat => r ++ [(a : Int)]).map row)), .d (row r), c6] := w6
        refine s_asgD w6' (d := .list ((((allR n t).take (j + 1)).flatMap fun r => (List.range n).map fun a : Nat => r ++ [(a : Int)]).map row)) (ev_d (ev_lock (en_addDN (ev_var (i := 4) w6' rfl) (en_lcR (j := 6) (n := (n : Nat)) w6' (ea_cons (ev_var (i := 0) w6' rfl) ea_nil) (fun _ => true) (fun x => row (r ++ [(x : Int)])) (by omega) (fun x _ σ7 H7 w7 => et_yes) (fun x _ σ7 H7 w7 _ => ev_d (ev_addT (ev_var (i := 5) w7 rfl) (ev_tup (ed_cons (ev_var (i := 6) w7 rfl) ed_nil)) (by rw [iL_len, hrl]; simp; omega)) (by rw [row, iL_app]; rfl))) ?_)) ?_) fun σ8 H8 w8 => ⟨_, _, w8⟩
        · rw [kept_all, List.length_map, List.length_map, List.length_range]
          omega
        · rw [kept_all, htk, List.flatMap_append, List.map_append]
          simp [Function.comp_def]
      · rintro a σ' H' ⟨c5, c6, w5⟩
        rw [List.length_map, List.take_length] at w5
        refine s_asgD w5.unghost (ev_var (i := 4) w5.unghost rfl) fun σ6 H6 w6 => ⟨_, _, _, _, w6⟩
    · rintro σ H' ⟨c3, c4, c5, c6, w2⟩
      rw [Int.toNat_natCast] at w2
      exact s_retQ w2 q (ev_var (i := 2) w2 rfl)
end
end K1
set_option maxRecDepth 10000000
namespace K1
open PySem PySem.Spec PyProof.Rows L2 Pt
local macro_rules
  | `(tactic| walk_at "sz") => `(tactic| first
    | omega
    | decide
    | (simp; omega)
    | (simp [iL, row, pairsD]; omega))
  | `(tactic| walk_at "ea") => `(tactic| first
    | (with_reducible exact ea_nil)
    | ((with_reducible apply ea_consL); (focus (walk_at "ev")); (focus (walk_at "ea")))
    | ((with_reducible apply ea_consS); (focus (walk_at "ev")); (focus (walk_at "ea")))
    | ((with_reducible apply ea_cons); (focus (walk_at "ev")); (focus (walk_at "ea")))
    | ((with_reducible apply ea_consN); (focus (walk_at "en")); (focus (walk_at "ea"))))
  | `(tactic| walk_at "ed") => `(tactic| first
    | (with_reducible exact ed_nil)
    | ((with_reducible apply ed_cons); (focus (walk_at "ev")); (focus (walk_at "ed"))))
  | `(tactic| walk_at "en") => `(tactic| first
    | ((with_reducible apply en_lst); (focus (walk_at "ed")); (focus (simp)))
    | ((with_reducible apply en_listT); (focus (walk_at "ev")))
    | ((with_reducible apply en_addL); (focus (walk_at "ev")); (focus (walk_at "en")); (focus (walk_at "sz")))
    | ((with_reducible apply en_addN); (focus (walk_at "en")); (focus (walk_at "en")); (focus (walk_at "sz")))
    | ((with_reducible apply en_slL); (focus (walk_at "ev")); (focus (walk_at "eo")); (focus (walk_at "eo"))))
  | `(tactic| walk_at "eo") => `(tactic| first
    | (with_reducible exact eo_none)
    | ((with_reducible apply eo_some); (focus (walk_at "ev"))))
  | `(tactic| walk_at "et") => `(tactic| first
    | (with_reducible exact et_yes)
    | ((with_reducible apply et_test); (focus (walk_at "ev")))
    | ((with_reducible apply et_B); (focus (walk_at "ev")))
    | ((with_reducible apply et_truB); (focus (walk_at "ev")))
    | ((with_reducible apply et_truT); (focus (walk_at "ev")))
    | ((with_reducible apply et_not); (focus (walk_at "et")))
    | ((with_reducible apply et_and); (focus (walk_at "et")); (focus (intro _; walk_at "et")))
    | ((with_reducible apply et_or); (focus (walk_at "et")); (focus (intro _; walk_at "et"))))
  | `(tactic| walk_at "var") => `(tactic| first
    | ((with_reducible apply ev_varD); (focus (assumption)); (focus (rfl)))
    | ((with_reducible apply ev_varL); (focus (assumption)); (focus (rfl)))
    | ((with_reducible apply ev_varS); (focus (assumption)); (focus (rfl)))
    | ((with_reducible apply ev_varT); (focus (assumption)); (focus (rfl)))
    | ((with_reducible apply ev_varH); (focus (assumption)); (focus (rfl)))
    | ((with_reducible apply ev_varZ); (focus (assumption)); (focus (rfl))))
  | `(tactic| walk_at "ev") => `(tactic| first
    | walk_at "var"
    | (with_reducible exact ev_int)
    | (with_reducible exact ev_bl)
    | (with_reducible exact ev_str)
    | (with_reducible exact ev_non)
    | ((with_reducible apply ev_letters); (focus (walk_at "ev")))
    | ((with_reducible apply ev_pairs); (focus (walk_at "ev")))
    | ((with_reducible apply ev_addI); (focus (walk_at "ev")); (focus (walk_at "ev")))
    | ((with_reducible apply ev_addT); (focus (walk_at "ev")); (focus (walk_at "ev")); (focus (walk_at "sz")))
    | ((with_reducible apply ev_i0); (focus (walk_at "ev")); (focus (walk_at "ev")); (focus (first | exact fun _ => .int _ | exact fun _ => .bl _)))
    | ((with_reducible apply ev_iC); (focus (walk_at "ev")); (focus (walk_at "ev")); (focus (first | assumption | walk_at "cond")); (focus (exact fun _ => .int _)))
    | ((with_reducible apply ev_chain); (focus (walk_at "ev")); (focus (walk_at "ev")); (focus (walk_at "ev")))
    | ((with_reducible apply ev_eqI); (focus (walk_at "ev")); (focus (walk_at "ev")))
    | ((with_reducible apply ev_neI); (focus (walk_at "ev")); (focus (walk_at "ev")))
    | ((with_reducible apply ev_eqR); (focus (walk_at "ev")); (focus (walk_at "ev")))
    | ((with_reducible apply ev_neR); (focus (walk_at "ev")); (focus (walk_at "ev")))
    | ((with_reducible apply ev_isN); (focus (walk_at "ev")))
    | ((with_reducible apply ev_notN); (focus (walk_at "ev")))
    | ((with_reducible apply ev_in2); (focus (walk_at "ev")); (focus (walk_at "ev")); (focus (walk_at "ev")))
    | ((with_reducible apply ev_inP); (focus (walk_at "ev")); (focus (walk_at "ev")))
    | ((with_reducible apply ev_tup); (focus (walk_at "ed")); (focus (simp)))
    | ((with_reducible apply ev_lenT); (focus (walk_at "ev")))
    | ((with_reducible apply ev_lenL); (focus (walk_at "ev")))
    | ((with_reducible apply ev_lenS); (focus (walk_at "ev")))
    | ((with_reducible apply ev_lenN); (focus (walk_at "en")))
    | ((with_reducible apply ev_max2); (focus (walk_at "ev")); (focus (walk_at "ev")))
    | ((with_reducible apply ev_min2); (focus (walk_at "ev")); (focus (walk_at "ev")))
    | ((with_reducible apply ev_int1); (focus (walk_at "ev")))
    | ((with_reducible apply ev_tupleL); (focus (walk_at "ev")))
    | ((with_reducible apply ev_tupleN); (focus (walk_at "en")))
    | ((with_reducible apply ev_countT); (focus (walk_at "ev")); (focus (walk_at "ev")))
    | ((with_reducible apply ev_andV); (focus (walk_at "ev")); (focus (intro _; walk_at "ev")))
    | ((with_reducible apply ev_orV); (focus (walk_at "ev")); (focus (intro _; walk_at "ev")))
    | ((with_reducible apply ev_notV); (focus (walk_at "ev"))))
def isGrp (ps : List (Int × Int)) (S : List Int) : Bool := (S.filter fun a => !(S.filter fun b => decide (a < b) && !mayL ps a b).isEmpty).isEmpty
theorem isGrp_iff {ps : List (Int × Int)} {S : List Int} : isGrp ps S = true ↔ ∀ a ∈ S, ∀ b ∈ S, a < b → mayL ps a b = true := by
  unfold isGrp
  simp
def pwL : Nat → List (List Int)
  | 0 => [[]]
  | k + 1 => pwL k ++ (pwL k).map fun S => S ++ [((k : Nat) : Int)]
theorem pw_len : ∀ k, (pwL k).length = 2 ^ k
  | 0 => rfl
  | k + 1 => by
    unfold pwL
    rw [List.length_append, List.length_map, pw_len k, Nat.pow_succ]
    omega
theorem pw_lt : ∀ k, ∀ S ∈ pwL k, S.length ≤ k ∧ ∀ x ∈ S, x < (k : Nat)
  | 0, S, h => by
    have : S = [] := by simpa [pwL] using h
    subst this
    simp
  | k + 1, S, h => by
    unfold pwL at h
    rcases List.mem_append.mp h with h | h
    · have := pw_lt k S h
      exact ⟨by omega, fun x hx => by have := this.2 x hx; omega⟩
    · obtain ⟨T, hT, rfl⟩ := List.mem_map.mp h
      have := pw_lt k T hT
      refine ⟨by simp; omega, fun x hx => ?_⟩
      rcases List.mem_append.mp hx with hx | hx
      · have := this.2 x hx; omega
      · have := List.mem_singleton.mp hx; omega
theorem grp_snoc {n : Int} {ps : List (Int × Int)} (hok : PairsOk n ps) {S : List Int} {k : Nat} (h : ∀ x ∈ S, x < (k : Nat)) : isGrp ps (S ++ [((k : Nat) : Int)]) = (isGrp ps S && joins ps S (k : Nat)) := by
  rw [Bool.eq_iff_iff, Bool.and_eq_true, isGrp_iff, isGrp_iff]
  have j : joins ps S (k : Nat) = true ↔ ∀ x ∈ S, may ps x (k : Nat) = true := by simp [joins]
  rw [j]
  constructor
  · intro g
    exact ⟨fun a ha b hb => g a (List.mem_append_left _ ha) b (List.mem_append_left _ hb), fun x hx => by
      rw [← mayL_eq hok]
      exact g x (List.mem_append_left _ hx) _ (by simp) (h x hx)⟩
  · rintro ⟨g1, g2⟩ a ha b hb lt
    rcases List.mem_append.mp ha with ha | ha
    · rcases List.mem_append.mp hb with hb | hb
      · exact g1 a ha b hb lt
      · rw [List.mem_singleton.mp hb, mayL_eq hok]
        exact g2 a ha
    · rcases List.mem_append.mp hb with hb | hb
      · have := h b hb
        have := List.mem_singleton.mp ha
        omega
      · have := List.mem_singleton.mp ha
        have := List.mem_singleton.mp hb
        omega
theorem pw_groups {n : Int} {ps : List (Int × Int)} (hok : PairsOk n ps) : ∀ k, (pwL k).filter (isGrp ps) = grL ps k
  | 0 => by
    unfold pwL grL
    rfl
  | k + 1 => by
    unfold pwL grL
    rw [← pw_groups hok k, List.filter_append, List.filter_map, List.filter_filter]
    congr 2
    refine List.filter_congr fun S hS => ?_
    show isGrp ps (S ++ [_]) = _
    rw [grp_snoc hok (pw_lt k S hS).2, Bool.and_comm]
def wL (n : Nat) (ps : List (Int × Int)) (M : Nat) : List Int := (List.range M).map fun k => - cS (grL ps n) (k + 1)
theorem wL_at {n : Nat} {ps : List (Int × Int)} {M k : Nat} (h : k < M) : (iL (wL n ps M))[k]? = some (.int (- cS (grL ps n) (k + 1))) := by
  unfold wL iL
  rw [List.getElem?_map, List.getElem?_map, List.getElem?_range h]
  rfl
theorem w_sum {n : Nat} {ps : List (Int × Int)} (hok : PairsOk (n : Nat) ps) {M k : Nat} (hM : M ≤ n) (far : ∀ j, M < j → cS (grL ps n) j = 0) (hk : 0 < k) :
    ((List.range (min k M)).map fun i => - cS (grL ps n) (i + 1) * ((cnL n ps (k - (i + 1)) 0 : Nat) : Int)).sum = ((cnL n ps k 0 : Nat) : Int) := by
  have neg : ∀ (f : Nat → Int) (m : Nat), ((List.range m).map fun i => - f i).sum = - ((List.range m).map f).sum := fun f m => by
    induction m with
    | zero => rfl
    | succ m ih => rw [List.range_succ, List.map_append, List.map_append, sum_app, sum_app, ih]; simp; omega
  rw [cn_rule hok hk]
  unfold sumS'
  rw [sum_cut2 (fun i => cS (grL ps n) (i + 1) * ((cnL n ps (k - (i + 1)) 0 : Nat) : Int)) (min k M) (min k n) (by omega) fun i h1 h2 => by
    rw [far (i + 1) (by omega), Int.zero_mul], ← neg]
  exact sum_congr fun i _ => Int.neg_mul _ _
section
variable {P : Program} {w : World} {K : PySem.W.Frag} {mg : Str → Option Value} {base : Heap}
abbrev A_law_is_group (as : List Ag) (d : PyData) : Prop := ∃ (ps : List (Int × Int)) (S : List Int), S.length ≤ 20 ∧ as = [.c (.d (pairsD ps)), .c (.d (row S))] ∧ d = .bool (isGrp ps S)
theorem ok__law_is_group (E : Nv K mg) : FnOk P w K mg base CX0 10 E.a__law_is_group E.d__law_is_group ["_law_pairs_here", "_law_some"] (spC K E.C_Trade A_law_is_group) := by
  refine E.F__law_is_group.ok sc__law_is_group (fun vs H Q _ h => ?_) (fun cdv A outer s H vs Q _ hr h => ?_)
  · obtain ⟨as, d, ha, ⟨_, _, _, rfl, _⟩, _⟩ := h
    exact ha.length
  · obtain ⟨as, d, ha, ⟨ps, S, hS, rfl, rfl⟩, q⟩ := h
    obtain ⟨v1, v2, rfl, a1, a2⟩ := ha.two
    refine ⟨_, (pss_one (ps_ret (pe_cmpR (op_eqK K hr.units) (pe_lc (own := [("_law_a", 2)]) (g := gName 2) (by rfl) sc__law_is_group.nd (pi_tupK K (pv 1)) (blkOk_by (own := [("_law_a", 2)]) (N := N__law_is_group) (sc := defScope s__law_is_group) (by decide +kernel)) (fun _ _ _ _ _ => (pg_name (i := 2) sc__law_is_group.nd rfl (Or.inr rfl))) (fun _ _ _ _ _ => (pts_one (pt_cmpR (op_neK K hr.units) (pe_lc (own := [("_law_b", 3)]) (g := gName 3) (by rfl) sc__law_is_group.nd (pi_tupK K (pv 1)) (blkOk_by (own := [("_law_b", 3)]) (N := N__law_is_group) (sc := ({ kind := .function, names := [(".0", .local), ("_law_a", .cell), ("_law_pairs_here", .cell), ("_law_some", .cell)], isGenerator := false, isCoroutine := false } : Scope)) (by decide +kernel)) (fun _ _ _ _ _ => (pg_name (i := 3) sc__law_is_group.nd rfl (Or.inl rfl))) (fun _ _ _ _ _ => (pts_one (PW.pt (pw_and (pt_cmpR (op_lt) (pv 2) (pv 3) (nomark _)) (pw_and1 (pt_not (pt_truK K (pe_call (ok__law_may E) (hr.mono (by first | decide | omega)) (by rfl) E.m__law_may E.F__law_may.kp E.b__law_may .nil pass0 (pa_cons (pv 0) (pa_cons (pv 2) (pa_cons (pv 3) pa_nil)))) (fun _ => rfl)))))))) (fun _ _ _ _ _ => (pv 3))) (pe_lst pa_nil) (nomark _)))) (fun _ _ _ _ _ => (pv 2))) (pe_lst pa_nil) (nomark _)))), ?_⟩
    have w0 : Wd K E.C_Trade [] [] H H _ [.d (pairsD ps), .d (row S), .u, .u] := Wd.start2 (N := N__law_is_group) (c1 := .d (pairsD ps)) (c2 := .d (row S)) a1 a2
    refine s_retQ w0 q (ev_d (ev_eqNilN (en_lcT (l := S) (j := 2) (mk := PyData.int) w0 (ev_var (i := 1) w0 rfl) (fun a => !(S.filter fun b => decide (a < b) && !mayL ps a b).isEmpty) PyData.int (by omega) (fun a ha σ1 H1 w1 => et_cast (et_test (ev_neNilN (en_lcT (l := S) (j := 3) (mk := PyData.int) w1 (ev_var (i := 1) w1 rfl) (fun b => decide (a < b) && !mayL ps a b) PyData.int (by omega) (fun b hb σ2 H2 w2 => et_and (et_test (ev_i0 (ev_var (i := 2) w2 rfl) (ev_var (i := 3) w2 rfl) (fun _ => .bl _))) fun _ => et_not (et_truB (ev_call (ea_cons (ev_var (i := 0) w2 rfl) (ea_cons (ev_var (i := 2) w2 rfl) (ea_cons (ev_var (i := 3) w2 rfl) ea_nil))) ⟨_, _, _, rfl, rfl⟩))) (fun b hb σ2 H2 w2 _ => ev_var (i := 3) w2 rfl)) (by rw [kept_int]; exact shaped_list _))) ?_) (fun a ha σ1 H1 w1 _ => ev_var (i := 2) w1 rfl)) (by rw [kept_int]; exact shaped_list _)) ?_)
    · unfold kept; rw [List.isEmpty_map]
    · unfold kept isGrp; rw [List.isEmpty_map]
abbrev A_law_groups (as : List Ag) (ds : List PyData) : Prop := ∃ (n : Nat) (ps : List (Int × Int)), PairsOk (n : Nat) ps ∧ n ≤ 6 ∧ as = [.c (.d (.int (n : Nat))), .c (.d (pairsD ps))] ∧ ds = ((grL ps n).mergeSort leR).map row
theorem ok__law_groups (E : Nv K mg) : FnOk P w K mg base CX0 14 E.a__law_groups E.d__law_groups ["_law_letters", "_law_pairs_here"] (spN K E.C_Trade A_law_groups) := by
  refine E.F__law_groups.ok sc__law_groups (fun vs H Q _ h => ?_) (fun cdv A outer s H vs Q _ hr h => ?_)
  · obtain ⟨as, d, ha, ⟨_, _, _, _, rfl, _⟩, _⟩ := h
    exact ha.length
  · obtain ⟨as, d, ha, ⟨n, ps, hok, h6, rfl, rfl⟩, q⟩ := h
    obtain ⟨v1, v2, rfl, a1, a2⟩ := ha.two
    refine ⟨_, (pss_cons (ps_set (i := 2) sc__law_groups.nd rfl (.inl rfl) (pe_lst (pa_cons (pe_tupF pa_nil) pa_nil)))
      (pss_cons (ps_for PassesOwn.never rfl (pi_range1 (by rfl) E.n_range (pa_cons (pv 0) pa_nil)) (pg_name (i := 3) sc__law_groups.nd rfl (.inr rfl))
      (pss_one (ps_set (i := 2) sc__law_groups.nd rfl (.inl rfl) (pe_op (op_addK K) (pv 2) (pe_lc (own := [("_law_some", 4)]) (g := gName 4) (by rfl) sc__law_groups.nd (pi_listK K (pv 2)) (blkOk_by (own := [("_law_some", 4)]) (N := N__law_groups) (sc := defScope s__law_groups) (by decide +kernel)) (fun _ _ _ _ _ => (pg_name (i := 4) sc__law_groups.nd rfl (Or.inl rfl))) (fun _ _ _ _ _ => pts_nil) (fun _ _ _ _ _ => (pe_op (op_addK K) (pv 4) (pe_tupF (pa_cons (pv 3) pa_nil)))))))))
      (pss_one (ps_ret (pe_callB (call_sortTK K hr.units12) (by rfl) E.n_sorted (by decide +kernel) (pa_cons (pe_lc (own := [("_law_some", 4)]) (g := gName 4) (by rfl) sc__law_groups.nd (pi_listK K (pv 2)) (blkOk_by (own := [("_law_some", 4)]) (N := N__law_groups) (sc := defScope s__law_groups) (by decide +kernel)) (fun _ _ _ _ _ => (pg_name (i := 4) sc__law_groups.nd rfl (Or.inl rfl))) (fun _ _ _ _ _ => (pts_one (pt_truK K (pe_call (ok__law_is_group E) (hr.mono (by first | decide | omega)) (by rfl) E.m__law_is_group E.F__law_is_group.kp E.b__law_is_group .nil pass0 (pa_cons (pv 1) (pa_cons (pv 4) pa_nil))) (fun _ => rfl)))) (fun _ _ _ _ _ => (pv 4))) pa_nil)))))), ?_⟩
    have w0 : Wd K E.C_Trade [] [] H H _ [.d (.int (n : Nat)), .d (pairsD ps), .u, .u, .u] := Wd.start2 (N := N__law_groups) (c1 := .d (.int (n : Nat))) (c2 := .d (pairsD ps)) a1 a2
    have two : ∀ k, k ≤ 6 → 2 ^ k ≤ 64 := fun k hk => Nat.le_trans (Nat.pow_le_pow_right (by decide) hk) (by decide)
    refine q_asgN w0 (en_lst (ed_cons (ev_d (e := row []) (ev_tup ed_nil) rfl) ed_nil)) fun p σ1 H1 _ w1 => ?_
    have w1' : Wd K E.C_Trade [] [] H H1 σ1 [.d (.int (n : Nat)), .d (pairsD ps), .l p ((pwL 0).map row), .u, .u] := w1
    refine q_forR1 w1' (n := (n : Nat)) (ea_cons (ev_var (i := 0) w1' rfl) ea_nil) (by omega) (fun t σ H' => ∃ p c3 c4, Wd K E.C_Trade [] [] H H' σ [.d (.int (n : Nat)), .d (pairsD ps), .l p ((pwL t).map row), c3, c4]) (fun H2 w2 => ⟨_, _, _, w2⟩) ?_ ?_
    · rintro t σ H' ht ⟨p, c3, c4, w2⟩
      have w3 : Wd K E.C_Trade [] [] H H' _ [.d (.int (n : Nat)), .d (pairsD ps), .l p ((pwL t).map row), .d (.int (t : Nat)), c4] := w2.set 3 (v := .int (t : Nat)) (c := .d (.int (t : Nat))) (.int _)
      have l1 : (pwL t).length ≤ 64 := by rw [pw_len]; exact two t (by omega)
      refine s_asgN w3 (en_cast (es := (pwL (t + 1)).map row) (en_addL (ev_var (i := 2) w3 rfl) (en_lcS (j := 4) (l := pwL t) (mk := row) w3 (ev_lend (ev_var (i := 2) w3 rfl)) (fun _ => true) (fun S => row (S ++ [((t : Nat) : Int)])) (by omega) (fun S hS σ6 H6 w6 => et_yes) (fun S hS σ6 H6 w6 _ => ev_d (ev_addT (ev_var (i := 4) w6 rfl) (ev_tup (ed_cons (ev_var (i := 3) w6 rfl) ed_nil)) (by have := (pw_lt t S hS).1; rw [iL_len]; simp; omega)) (by rw [row, iL_app]; rfl))) (by rw [kept_all]; simp; omega)) ?_) fun p' σ6 H6 _ w6 => ⟨p', _, _, w6⟩
      rw [kept_all]
      conv => rhs; unfold pwL
      rw [List.map_append, List.map_map]
      rfl
    · rintro σ H' ⟨p, c3, c4, w2⟩
      rw [Int.toNat_natCast] at w2
      have l1 : (pwL n).length ≤ 64 := by rw [pw_len]; exact two n h6
      refine s_retNQ w2 q (en_cast (en_sortTN (ds := (grL ps n).map row) (en_cast (en_lcS (j := 4) (l := pwL n) (mk := row) w2 (ev_lend (ev_var (i := 2) w2 rfl)) (isGrp ps) row (by omega) (fun S hS σ6 H6 w6 => et_truB (ev_call (ea_cons (ev_var (i := 1) w6 rfl) (ea_cons (ev_var (i := 4) w6 rfl) ea_nil)) ⟨ps, S, by have := (pw_lt n S hS).1; omega, rfl, rfl⟩)) (fun S hS σ6 H6 w6 _ => ev_var (i := 4) w6 rfl)) ?_) (rows_alike _) (rows_tupx _) (rows_dep8x _)) (sortedD_rows _))
      unfold kept
      rw [pw_groups hok]
abbrev A_law_row_of (as : List Ag) (ds : List PyData) : Prop := ∃ (n : Nat) (ps : List (Int × Int)) (M k : Nat), PairsOk (n : Nat) ps ∧ n ≤ 6 ∧ M ≤ n ∧ (∀ j, M < j → cS (grL ps n) j = 0) ∧ k ≤ 500 ∧ as = [.n (iL (wL n ps M)), .c (.d (.int (k : Nat)))] ∧ ds = iL (foL n ps (k + 1))
theorem ok__law_row_of (E : Nv K mg) : FnOk P w K mg base CX0 10 E.a__law_row_of E.d__law_row_of ["_law_weights", "_law_length"] (spN K E.C_Trade A_law_row_of) := by
  refine E.F__law_row_of.ok sc__law_row_of (fun vs H Q _ h => ?_) (fun cdv A outer s H vs Q _ hr h => ?_)
  · obtain ⟨as, d, ha, ⟨_, _, _, _, _, _, _, _, _, rfl, _⟩, _⟩ := h
    exact ha.length
  · obtain ⟨as, d, ha, ⟨n, ps, M, k, hok, h6, hM, far, hk, rfl, rfl⟩, q⟩ := h
    obtain ⟨v1, v2, rfl, a1, a2⟩ := ha.two
    obtain ⟨pc, a1⟩ := a1.lent
    obtain rfl : v1 = .ref pc := a1.1
    refine ⟨_, (pss_cons (ps_set (i := 2) sc__law_row_of.nd rfl (.inr rfl) (pe_lst (pa_cons pe_int pa_nil)))
      (pss_cons (ps_for PassesOwn.never rfl (pi_range2 (by rfl) E.n_range (pa_cons pe_int (pa_cons (pe_op (op_addK K) (pv 1) pe_int) pa_nil))) (pg_name (i := 3) sc__law_row_of.nd rfl (.inr rfl))
      (pss_one (ps_expr (pe_bm PySem.F.plainAttrs_list PySem.F.slot_list_append PySem.F.type_list_append mt_append (pv 2) (pa_cons (pe_callB (cr_sumK K rfl) (by rfl) E.n_sum (by decide +kernel) (pa_cons (pe_lc (own := [("_law_k", 4)]) (g := gName 4) (by rfl) sc__law_row_of.nd (pi_range1 (by rfl) E.n_range (pa_cons (pe_callB (call_min2' rfl) (by rfl) E.n_min (by decide +kernel) (pa_cons (pv 3) (pa_cons (pe_callB (call_lenK K) (by rfl) E.n_len (by decide +kernel) (pa_cons (pv 0) pa_nil)) pa_nil))) pa_nil)) (blkOk_by (own := [("_law_k", 4)]) (N := N__law_row_of) (sc := defScope s__law_row_of) (by decide +kernel)) (fun _ _ _ _ _ => (pg_name (i := 4) sc__law_row_of.nd rfl (Or.inl rfl))) (fun _ _ _ _ _ => pts_nil) (fun _ _ _ _ _ => (pe_op op_mulW (pe_ix (ix_K K) (pv 0) (pv 4) (fun _ _ => rfl)) (pe_ix (ix_K K) (pv 2) (pe_op op_sub (pe_op op_sub (pv 3) (pv 4)) pe_int) (fun _ _ => rfl))))) pa_nil)) pa_nil)))))
      (pss_one (ps_ret (pv 2))))), ?_⟩
    have w0 : Wd K E.C_Trade [] [] H H _ [.s pc (iL (wL n ps M)), .d (.int (k : Nat)), .u, .u, .u] := Wd.start2 (N := N__law_row_of) (c1 := .s pc (iL (wL n ps M))) (c2 := .d (.int (k : Nat))) a1 a2
    refine q_asgN w0 (en_lst (ds := iL (foL n ps 1)) (ed_cons ev_int ed_nil) (Nat.le_of_ble_eq_true rfl)) fun pf σ4 H4 _ w4 => ?_
    have w4' : Wd K E.C_Trade [] [] H H4 σ4 [.s pc (iL (wL n ps M)), .d (.int (k : Nat)), .l pf (iL (foL n ps 1)), .u, .u] := w4
    have lw : (iL (wL n ps M)).length = M := by rw [iL_len]; unfold wL; rw [List.length_map, List.length_range]
    refine q_forR2 w4' (lo := 1) (n := (k : Int) + 1) (ea_cons ev_int (ea_cons (ev_addI (ev_var (i := 1) w4' rfl) ev_int) ea_nil)) (by omega) (fun t σ H' => ∃ c3 c4, Wd K E.C_Trade [] [] H H' σ [.s pc (iL (wL n ps M)), .d (.int (k : Nat)), .l pf (iL (foL n ps (t + 1))), c3, c4]) (fun H5 w5 => ⟨_, _, w5⟩) ?_ ?_
    · rintro t σ H' ht ⟨c3, c4, w5⟩
      have e1 : 1 + ((t : Nat) : Int) = ((t + 1 : Nat) : Int) := by omega
      rw [e1]
      have w6 : Wd K E.C_Trade [] [] H H' _ [.s pc (iL (wL n ps M)), .d (.int (k : Nat)), .l pf (iL (foL n ps (t + 1))), .d (.int (t + 1 : Nat)), c4] := w5.set 3 (v := .int (t + 1 : Nat)) (c := .d (.int (t + 1 : Nat))) (Td.int _)
      have e3 : (min ((t + 1 : Nat) : Int) ((iL (wL n ps M)).length : Nat)).toNat = min (t + 1) M := by rw [lw]; omega
      refine s_app w6 (i := 2) (d := .int (cnL n ps (t + 1) 0 : Nat)) rfl (ev_d (ev_sumN (ns := (List.range (min (t + 1) M)).map fun i => - cS (grL ps n) (i + 1) * ((cnL n ps (t + 1 - (i + 1)) 0 : Nat) : Int)) (en_cast (en_lcR (j := 4) (n := min ((t + 1 : Nat) : Int) ((iL (wL n ps M)).length : Nat)) w6 (ea_cons (ev_min2 (ev_var (i := 3) w6 rfl) (ev_lenS (ev_var (i := 0) w6 rfl))) ea_nil) (fun _ => true) (fun i => .int (- cS (grL ps n) (i + 1) * ((cnL n ps (t + 1 - (i + 1)) 0 : Nat) : Int))) (by omega) (fun i hi σ7 H7 w7 => et_yes) (fun i hi σ7 H7 w7 _ => ev_iC (ev_ixS (d := .int (- cS (grL ps n) (i + 1))) (ev_var (i := 0) w7 rfl) (ev_var (i := 4) w7 rfl) (atI_nat (wL_at (by rw [lw] at hi; omega)))) (ev_ixL (d := .int (cnL n ps (t + 1 - (i + 1)) 0 : Nat)) (ev_var (i := 2) w7 rfl) (ev_d (e := .int (t + 1 - (i + 1) : Nat)) (ev_i0 (ev_i0 (ev_var (i := 3) w7 rfl) (ev_var (i := 4) w7 rfl) (fun _ => .int _)) ev_int (fun _ => .int _)) (by congr 1; omega)) (atI_nat (foL_at (by omega)))) (wide_mul (by rw [Int.natAbs_neg]; exact cs_wide h6 ps _) (cn_wide h6 ps (by omega)) (by decide) (by decide) (by decide)) (fun _ => .int _))) ?_)) ?_) (by rw [iL_len]; unfold foL; rw [List.length_map, List.length_range]; omega) fun H9 w9 => ⟨.d (.int (t + 1 : Nat)), c4, ?_⟩
      · rw [kept_all, e3]
        unfold iL
        rw [List.map_map]
        rfl
      · rw [w_sum hok hM far (Nat.succ_pos t)]
      · have e4 : iL (foL n ps (t + 1 + 1)) = iL (foL n ps (t + 1)) ++ [.int (cnL n ps (t + 1) 0 : Nat)] := by
          unfold foL
          rw [List.range_succ (n := t + 1), List.map_append, iL_app]
          rfl
        rw [e4]
        exact w9
    · rintro σ H' ⟨c3, c4, w5⟩
      have e5 : ((k : Int) + 1 - 1).toNat = k := by omega
      rw [e5] at w5
      exact s_retLQ w5 q rfl
end
end K1
set_option maxRecDepth 10000000
namespace K1
open PySem PySem.Spec PyProof.Rows L2 Pt
theorem cS_count (G : List (List Int)) (j : Nat) : cS G j = (if j % 2 = 0 then 1 else -1) * (((G.filter fun S => decide (S.length = j)).length : Nat) : Int) := by
  induction G with
  | nil => simp [cS]
  | cons S G ih =>
    rw [cS_cons, ih, List.filter_cons]
    by_cases h : S.length = j
    · subst h
      have e : sg S = if S.length % 2 = 0 then 1 else -1 := rfl
      rw [if_pos rfl, if_pos (decide_eq_true rfl), e, List.length_cons]
      split <;> omega
    · rw [if_neg h, decide_eq_false h, Int.zero_add]
      rfl
theorem top_size : ∀ (L : List (List Int)), L ≠ [] → ∃ M : Nat, (∃ S ∈ L, S.length = M) ∧ ∀ S ∈ L, S.length ≤ M
  | [], h => absurd rfl h
  | S :: L, _ => by
    by_cases e : L = []
    · subst e
      exact ⟨S.length, ⟨S, by simp, rfl⟩, fun T hT => by rw [List.mem_singleton.mp hT]; exact Nat.le_refl _⟩
    · obtain ⟨M, ⟨T, hT, eT⟩, top⟩ := top_size L e
      by_cases c : M ≤ S.length
      · exact ⟨S.length, ⟨S, List.mem_cons_self, rfl⟩, fun U hU => by
          rcases List.mem_cons.mp hU with z | z
          · rw [z]; exact Nat.le_refl _
          · exact Nat.le_trans (top U z) c⟩
      · exact ⟨M, ⟨T, List.mem_cons_of_mem _ hT, eT⟩, fun U hU => by
          rcases List.mem_cons.mp hU with z | z
          · rw [z]; omega
          · exact top U z⟩
def lenB (n : Int) : Int := if n = 1 then 6 else if n = 2 then 7 else if n = 3 then 5 else if n = 4 then 4 else 3
theorem lenB_at {n : Int} (h1 : 1 ≤ n) (h6 : n ≤ 6) : atI (iL [6, 7, 5, 4, 3, 3]) (n - 1) = some (.int (lenB n)) := by
  rcases (by omega : n = 1 ∨ n = 2 ∨ n = 3 ∨ n = 4 ∨ n = 5 ∨ n = 6) with rfl | rfl | rfl | rfl | rfl | rfl <;> rfl
theorem lenB_few {n k : Nat} (h1 : 1 ≤ n) (h6 : n ≤ 6) (r1 : (k : Int) < lenB n) : n ^ k ≤ 81 := by
  have go : ∀ (m k : Nat), (m = 1 ∧ k ≤ 5) ∨ (m = 2 ∧ k ≤ 6) ∨ (m = 3 ∧ k ≤ 4) ∨ (m = 4 ∧ k ≤ 3) ∨ (m = 5 ∧ k ≤ 2) ∨ (m = 6 ∧ k ≤ 2) → m ^ k ≤ 81 := fun m k h => by
    rcases h with ⟨rfl, h⟩ | ⟨rfl, h⟩ | ⟨rfl, h⟩ | ⟨rfl, h⟩ | ⟨rfl, h⟩ | ⟨rfl, h⟩
    · rw [Nat.one_pow]; decide
    · exact Nat.le_trans (Nat.pow_le_pow_right (by decide) h) (by decide)
    · exact Nat.le_trans (Nat.pow_le_pow_right (by decide) h) (by decide)
    · exact Nat.le_trans (Nat.pow_le_pow_right (by decide) h) (by decide)
    · exact Nat.le_trans (Nat.pow_le_pow_right (by decide) h) (by decide)
    · exact Nat.le_trans (Nat.pow_le_pow_right (by decide) h) (by decide)
  refine go _ _ ?_
  unfold lenB at r1
  repeat' split at r1
  all_goals omega
theorem every_distinct {n : Nat} {ps : List (Int × Int)} (hok : PairsOk (n : Nat) ps) (k : Nat) (r : List Int) : r ∈ enL n ps k 0 ↔ r ∈ (allR n k).map (leastL ps) := by
  rw [(en_lrows hok k).mem, List.mem_map]
  constructor
  · rintro ⟨h1, h2, h3⟩
    exact ⟨r, mem_allR.mpr ⟨h1, h2⟩, h3⟩
  · rintro ⟨u, hu, rfl⟩
    obtain ⟨u1, u2⟩ := mem_allR.mp hu
    have pm := least_perm ps u
    exact ⟨fun x hx => u1 x (pm.mem_iff.mpr hx), by rw [← pm.length_eq, u2], least_fix hok u⟩
theorem sum_modQ (f g : Nat → Int) (m : Int) : ∀ k : Nat, ((List.range k).map fun i => f i * (g i % m)).sum % m = ((List.range k).map fun i => f i * g i).sum % m
  | 0 => rfl
  | k + 1 => by
    rw [List.range_succ, List.map_append, List.map_append, sum_app, sum_app, Int.add_emod, sum_modQ f g m k]
    rw [Int.add_emod (((List.range k).map fun i => f i * g i).sum)]
    congr 2
    simp only [List.map_cons, List.map_nil, List.sum_cons, List.sum_nil, Int.add_zero]
    rw [Int.mul_emod, Int.emod_emod, ← Int.mul_emod]
theorem far_rule {n : Nat} {ps : List (Int × Int)} (hok : PairsOk (n : Nat) ps) (h1 : 1 ≤ n) {M F : Nat} (hM : M ≤ n) (far : ∀ j, M < j → cS (grL ps n) j = 0) (hF : n < F) (hF2 : F ≤ 10 ^ 30) (m : Int) :
    ((List.range M).map fun i => - cS (grL ps n) (i + 1) * termL (scL n ps) (F - i - 1) m).sum % m = termL (scL n ps) F m := by
  rw [termL_cn hok h1 hF2]
  have e : ∀ i ∈ List.range M, - cS (grL ps n) (i + 1) * termL (scL n ps) (F - i - 1) m = - cS (grL ps n) (i + 1) * (((cnL n ps (F - (i + 1)) 0 : Nat) : Int) % m) := fun i _ => by
    rw [termL_cn hok h1 (by omega), Nat.sub_sub]
  rw [sum_congr e, sum_modQ, ← w_sum hok hM far (show 0 < F by omega), Nat.min_eq_right (show M ≤ F by omega)]
theorem atI_last {ds : List PyData} {d : PyData} (h : ds[ds.length - 1]? = some d) (hp : 0 < ds.length) : atI ds (-1) = some d := by
  have e : ixN ds.length (-1) = some (ds.length - 1) := by
    unfold ixN
    rw [if_neg (by decide)]
    have h1 : (0 : Int) ≤ -1 + (ds.length : Int) := by omega
    first
      | (rw [if_pos (by omega)]; congr 1; omega)
      | (simp; omega)
  unfold atI
  rw [e]
  exact h
theorem fo_last (n : Nat) (ps : List (Int × Int)) (k : Nat) : atI (iL (foL n ps (k + 1))) (-1) = some (.int (cnL n ps k 0 : Nat)) := by
  have l : (iL (foL n ps (k + 1))).length = k + 1 := by rw [iL_len]; unfold foL; rw [List.length_map, List.length_range]
  exact atI_last (by rw [l]; exact foL_at (by omega)) (by omega)
theorem cn_one {ps : List (Int × Int)} (hok : PairsOk ((1 : Nat) : Int) ps) : ∀ k, cnL 1 ps k 0 = 1
  | 0 => rfl
  | k + 1 => by
    have r := cn_rule hok (show 0 < k + 1 by omega)
    rw [show min (k + 1) 1 = 0 + 1 by omega, sumS'_succ] at r
    have g : grL ps 1 = [[], [0]] := rfl
    have c1 : cS (grL ps 1) 1 = -1 := by rw [g, cS_count]; rfl
    have s0 : sumS' 1 ps (k + 1) 0 = 0 := rfl
    have ih := cn_one hok k
    rw [s0, show cS (grL ps 1) (0 + 1) = -1 from c1, Nat.add_sub_cancel, ih] at r
    omega
theorem cn_two {ps : List (Int × Int)} (hok : PairsOk ((2 : Nat) : Int) ps) (hm : may ps 0 1 = true) : ∀ k, cnL 2 ps k 0 = k + 1
  | 0 => rfl
  | k + 1 => by
    have j0 : joins ps [] ((1 : Nat) : Int) = true := rfl
    have j1 : joins ps [0] ((1 : Nat) : Int) = true := by
      show (may ps 0 1 && true) = true
      rw [hm]
      rfl
    have g : grL ps 2 = [[], [0], [1], [0, 1]] := by
      show [[], [0]] ++ ([[], [0]].filter fun S => joins ps S ((1 : Nat) : Int)).map (fun S => S ++ [((1 : Nat) : Int)]) = _
      rw [List.filter_cons, if_pos j0, List.filter_cons, if_pos j1]
      rfl
    have c1 : cS (grL ps 2) 1 = -2 := by rw [g, cS_count]; rfl
    have c2 : cS (grL ps 2) 2 = 1 := by rw [g, cS_count]; rfl
    have r := cn_rule hok (show 0 < k + 1 by omega)
    have s0 : sumS' 2 ps (k + 1) 0 = 0 := rfl
    have ih := cn_two hok hm k
    cases k with
    | zero =>
      rw [show min (0 + 1) 2 = 0 + 1 from rfl, sumS'_succ, s0, show cS (grL ps 2) (0 + 1) = -2 from c1] at r
      have : cnL 2 ps (0 + 1 - (0 + 1)) 0 = 1 := rfl
      rw [this] at r
      omega
    | succ k =>
      have ih2 := cn_two hok hm k
      rw [show min (k + 1 + 1) 2 = 0 + 1 + 1 by omega, sumS'_succ, sumS'_succ, s0, show cS (grL ps 2) (0 + 1) = -2 from c1, show cS (grL ps 2) (0 + 1 + 1) = 1 from c2, show k + 1 + 1 - (0 + 1) = k + 1 by omega, show k + 1 + 1 - (0 + 1 + 1) = k by omega, ih, ih2] at r
      omega
theorem two_may {ps : List (Int × Int)} (hok : PairsOk ((2 : Nat) : Int) ps) (h : ps ≠ []) : may ps 0 1 = true := by
  cases ps with
  | nil => exact absurd rfl h
  | cons p ps =>
    have z := hok.1 p List.mem_cons_self
    have e : p = (0, 1) := by
      obtain ⟨a, b⟩ := p
      have := z.1; have := z.2.1; have := z.2.2
      simp only at *
      rw [Prod.mk.injEq]
      omega
    rw [← mayL_eq hok]
    unfold mayL
    rw [e]
    simp
theorem shaped_rowsQ (L : List (List Int)) : SeqAt.shaped (.list (L.map row)) = true := by
  show ((PyData.list (L.map row)).canLay0 && decide ((PyData.list (L.map row)).depth ≤ 64)) = true
  have h1 : ∀ L : List (List Int), PyData.canLayAll0 (L.map row) = true := fun L => by
    induction L with
    | nil => rfl
    | cons r L ih =>
      have := lay_iL r
      simp [PyData.canLayAll0, PyData.canLay0, row, this] at ih ⊢
      exact ih
  have h2 := depth_rows L
  rw [Bool.and_eq_true, decide_eq_true_eq]
  exact ⟨by simpa [PyData.canLay0] using h1 L, by simp only [PyData.depth]; omega⟩
theorem eqv_rowsQ (L : List (List Int)) : PyData.eqv (.list (L.map row)) (.list (L.map row)) = true := by
  have h : PyData.eqvAll (L.map row) (L.map row) = true := by
    induction L with
    | nil => rfl
    | cons r L ih =>
      have := eqv_row r r
      simp [PyData.eqvAll, this, ih]
  simpa [PyData.eqv] using h
end K1
set_option maxRecDepth 10000000
namespace K1
open PySem PySem.Spec PyProof.Rows L2 Pt
local macro_rules
  | `(tactic| walk_at "sz") => `(tactic| first
    | omega
    | decide
    | (simp; omega)
    | (simp [iL, row, pairsD]; omega))
  | `(tactic| walk_at "ea") => `(tactic| first
    | (with_reducible exact ea_nil)
    | ((with_reducible apply ea_consL); (focus (walk_at "ev")); (focus (walk_at "ea")))
    | ((with_reducible apply ea_consS); (focus (walk_at "ev")); (focus (walk_at "ea")))
    | ((with_reducible apply ea_cons); (focus (walk_at "ev")); (focus (walk_at "ea")))
    | ((with_reducible apply ea_consN); (focus (walk_at "en")); (focus (walk_at "ea"))))
  | `(tactic| walk_at "ed") => `(tactic| first
    | (with_reducible exact ed_nil)
    | ((with_reducible apply ed_cons); (focus (walk_at "ev")); (focus (walk_at "ed"))))
  | `(tactic| walk_at "en") => `(tactic| first
    | ((with_reducible apply en_lst); (focus (walk_at "ed")); (focus (simp)))
    | ((with_reducible apply en_listT); (focus (walk_at "ev")))
    | ((with_reducible apply en_addL); (focus (walk_at "ev")); (focus (walk_at "en")); (focus (walk_at "sz")))
    | ((with_reducible apply en_addN); (focus (walk_at "en")); (focus (walk_at "en")); (focus (walk_at "sz")))
    | ((with_reducible apply en_slL); (focus (walk_at "ev")); (focus (walk_at "eo")); (focus (walk_at "eo"))))
  | `(tactic| walk_at "eo") => `(tactic| first
    | (with_reducible exact eo_none)
    | ((with_reducible apply eo_some); (focus (walk_at "ev"))))
  | `(tactic| walk_at "et") => `(tactic| first
    | (with_reducible exact et_yes)
    | ((with_reducible apply et_test); (focus (walk_at "ev")))
    | ((with_reducible apply et_B); (focus (walk_at "ev")))
    | ((with_reducible apply et_truB); (focus (walk_at "ev")))
    | ((with_reducible apply et_truT); (focus (walk_at "ev")))
    | ((with_reducible apply et_not); (focus (walk_at "et")))
    | ((with_reducible apply et_and); (focus (walk_at "et")); (focus (intro _; walk_at "et")))
    | ((with_reducible apply et_or); (focus (walk_at "et")); (focus (intro _; walk_at "et"))))
  | `(tactic| walk_at "var") => `(tactic| first
    | ((with_reducible apply ev_varD); (focus (assumption)); (focus (rfl)))
    | ((with_reducible apply ev_varL); (focus (assumption)); (focus (rfl)))
    | ((with_reducible apply ev_varS); (focus (assumption)); (focus (rfl)))
    | ((with_reducible apply ev_varT); (focus (assumption)); (focus (rfl)))
    | ((with_reducible apply ev_varH); (focus (assumption)); (focus (rfl)))
    | ((with_reducible apply ev_varZ); (focus (assumption)); (focus (rfl))))
  | `(tactic| walk_at "ev") => `(tactic| first
    | walk_at "var"
    | (with_reducible exact ev_int)
    | (with_reducible exact ev_bl)
    | (with_reducible exact ev_str)
    | (with_reducible exact ev_non)
    | ((with_reducible apply ev_letters); (focus (walk_at "ev")))
    | ((with_reducible apply ev_pairs); (focus (walk_at "ev")))
    | ((with_reducible apply ev_addI); (focus (walk_at "ev")); (focus (walk_at "ev")))
    | ((with_reducible apply ev_addT); (focus (walk_at "ev")); (focus (walk_at "ev")); (focus (walk_at "sz")))
    | ((with_reducible apply ev_i0); (focus (walk_at "ev")); (focus (walk_at "ev")); (focus (first | exact fun _ => .int _ | exact fun _ => .bl _)))
    | ((with_reducible apply ev_iC); (focus (walk_at "ev")); (focus (walk_at "ev")); (focus (first | assumption | walk_at "cond")); (focus (exact fun _ => .int _)))
    | ((with_reducible apply ev_chain); (focus (walk_at "ev")); (focus (walk_at "ev")); (focus (walk_at "ev")))
    | ((with_reducible apply ev_eqI); (focus (walk_at "ev")); (focus (walk_at "ev")))
    | ((with_reducible apply ev_neI); (focus (walk_at "ev")); (focus (walk_at "ev")))
    | ((with_reducible apply ev_eqR); (focus (walk_at "ev")); (focus (walk_at "ev")))
    | ((with_reducible apply ev_neR); (focus (walk_at "ev")); (focus (walk_at "ev")))
    | ((with_reducible apply ev_isN); (focus (walk_at "ev")))
    | ((with_reducible apply ev_notN); (focus (walk_at "ev")))
    | ((with_reducible apply ev_in2); (focus (walk_at "ev")); (focus (walk_at "ev")); (focus (walk_at "ev")))
    | ((with_reducible apply ev_inP); (focus (walk_at "ev")); (focus (walk_at "ev")))
    | ((with_reducible apply ev_tup); (focus (walk_at "ed")); (focus (simp)))
    | ((with_reducible apply ev_lenT); (focus (walk_at "ev")))
    | ((with_reducible apply ev_lenL); (focus (walk_at "ev")))
    | ((with_reducible apply ev_lenS); (focus (walk_at "ev")))
    | ((with_reducible apply ev_lenN); (focus (walk_at "en")))
    | ((with_reducible apply ev_max2); (focus (walk_at "ev")); (focus (walk_at "ev")))
    | ((with_reducible apply ev_min2); (focus (walk_at "ev")); (focus (walk_at "ev")))
    | ((with_reducible apply ev_int1); (focus (walk_at "ev")))
    | ((with_reducible apply ev_tupleL); (focus (walk_at "ev")))
    | ((with_reducible apply ev_tupleN); (focus (walk_at "en")))
    | ((with_reducible apply ev_countT); (focus (walk_at "ev")); (focus (walk_at "ev")))
    | ((with_reducible apply ev_andV); (focus (walk_at "ev")); (focus (intro _; walk_at "ev")))
    | ((with_reducible apply ev_orV); (focus (walk_at "ev")); (focus (intro _; walk_at "ev")))
    | ((with_reducible apply ev_notV); (focus (walk_at "ev"))))
section
variable {P : Program} {w : World} {K : PySem.W.Frag} {mg : Str → Option Value} {base : Heap}
theorem ok__law_nextW (E : Nv K mg) : FnOk P w K mg base CX0 4 E.a__law_next E.d__law_next ["_law_h", "_law_bound"] (spHW K E.C_Trade) := by
  refine E.F__law_next.ok sc__law_next (fun vs H Q _ h => ?_) (fun cdv A outer s H vs Q _ hr h => ?_)
  · obtain ⟨p, c, b, rfl, _⟩ := h
    rfl
  · obtain ⟨p, c, b, rfl, ⟨_, hpc, st, k, cells, hp, hc, hl⟩, hb1, hb2, q⟩ := h
    refine ⟨_, (pss_cons (ps_set (i := 2) sc__law_next.nd rfl (.inl rfl) (pe_ix (ix_K K) (pe_op (op_addK K) (pe_ix (ix_K K) (pv 0) pe_int (fun _ _ => rfl)) (pe_lst (pa_cons pe_int pa_nil))) (pe_op op_mod (pe_callTy call_int1' (by rfl) E.n_int (by decide +kernel) (pa_cons (pe_ix (ix_K K) (pv 0) pe_int (fun _ _ => rfl)) pa_nil)) (pe_callB (call_max2' rfl) (by rfl) E.n_max (by decide +kernel) (pa_cons pe_int (pa_cons (pe_callB (call_lenK K) (by rfl) E.n_len (by decide +kernel) (pa_cons (pe_ix (ix_K K) (pv 0) pe_int (fun _ _ => rfl)) pa_nil)) pa_nil)))) (fun _ _ => rfl)))
      (pss_cons (ps_if (pt_cmpR (op_ge) (pv 2) (pe_op op_pow pe_int pe_int) (nomark _)) (pss_cons (ps_set (i := 3) sc__law_next.nd rfl (.inl rfl) (pe_ix (ix_K K) (pv 0) pe_int (fun _ _ => rfl)))
      (pss_cons (ps_asg (pe_op op_fdivW (pv 2) (pv 1)) (pg_sub (pv 3) (pe_op op_mod (pe_callTy call_int1' (by rfl) E.n_int (by decide +kernel) (pa_cons (pe_ix (ix_K K) (pv 0) pe_int (fun _ _ => rfl)) pa_nil)) (pe_callB (call_lenK K) (by rfl) E.n_len (by decide +kernel) (pa_cons (pv 3) pa_nil))) set_list))
      (pss_one (ps_ret (pe_op op_mod (pe_callTy call_int1' (by rfl) E.n_int (by decide +kernel) (pa_cons (pv 2) pa_nil)) (pv 1)))))) pss_nil)
      (pss_cons (ps_asg (pe_op op_mod (pe_callTy call_int1' (by rfl) E.n_int (by decide +kernel) (pa_cons (pe_op (op_addK K) (pe_op (op_addK K) (pe_op op_mul (pe_ix (ix_K K) (pv 0) pe_int (fun _ _ => rfl)) pe_int) (pe_op op_mul (pv 2) pe_int)) pe_int) pa_nil)) pe_int) (pg_sub (pv 0) pe_int set_list))
      (pss_cons (ps_asg (pe_op (op_addK K) (pe_ix (ix_K K) (pv 0) pe_int (fun _ _ => rfl)) pe_int) (pg_sub (pv 0) pe_int set_list))
      (pss_one (ps_ret (pe_op op_mod (pe_callTy call_int1' (by rfl) E.n_int (by decide +kernel) (pa_cons (pe_op op_fdiv (pe_ix (ix_K K) (pv 0) pe_int (fun _ _ => rfl)) pe_int) pa_nil)) (pv 1)))))))), ?_⟩
    have S0 : Src H p c st k cells := ⟨hp, hc, hpc, hl⟩
    have hM : (0 : Int) < max 1 (cells.length : Int) := by omega
    have i0 := Int.emod_nonneg k (show max 1 (cells.length : Int) ≠ 0 by omega)
    have i1 := Int.emod_lt_of_pos k hM
    have hj : (k % max 1 (cells.length : Int)).toNat < (cells ++ [0]).length := by
      rw [List.length_append]
      simp only [List.length_cons, List.length_nil]
      omega
    obtain ⟨cell, hcell⟩ : ∃ cell, (cells ++ [0])[(k % max 1 (cells.length : Int)).toNat]? = some cell := ⟨_, List.getElem?_eq_getElem hj⟩
    have g0 : atI (iL cells ++ [.int 0]) (k % max 1 (cells.length : Int)) = some (.int cell) := by
      have e : k % max 1 (cells.length : Int) = ((k % max 1 (cells.length : Int)).toNat : Int) := by omega
      rw [e]
      refine atI_nat ?_
      have z : iL cells ++ [.int 0] = iL (cells ++ [0]) := by rw [iL_app]; rfl
      rw [z, iL_get, hcell]
      rfl
    refine (ev_ixN (K := K) (C := E.C_Trade) (d := .int cell) (en_addL (src_c S0 rfl) (en_lst (ed_cons ev_int ed_nil)) (by rw [iL_len]; simp; omega)) (ev_iC (ev_int1 (src_k S0 rfl)) (ev_max2 ev_int (ev_d (ev_lenL (src_c S0 rfl)) (by rw [iL_len]))) hM (fun _ => .int _)) g0) H (Same.refl H) _ fun v H1 e1 a1 => ?_
    rw [Td.int_of a1]
    have S1 := S0.mono e1
    refine (et_test (ev_i0 (K := K) (C := E.C_Trade) (ev_at (k := cell) rfl) (ev_iC (d := .int (10 ^ 18)) ev_int ev_int ⟨by decide, by decide, by decide⟩ (fun _ => .int _)) (fun _ => .bl _))) H1 (Same.refl H1) _ fun H2 e2 => ?_
    have S2 := S1.mono e2
    by_cases hbig : (10 ^ 18 : Int) ≤ cell
    · rw [if_pos (decide_eq_true hbig)]
      have hj2 : (k % max 1 (cells.length : Int)).toNat < cells.length := by
        rcases Nat.lt_or_ge (k % max 1 (cells.length : Int)).toNat cells.length with z | z
        · exact z
        · have e : (k % max 1 (cells.length : Int)).toNat = cells.length := by
            rw [List.length_append] at hj
            simp only [List.length_cons, List.length_nil] at hj
            omega
          rw [e, List.getElem?_append_right (Nat.le_refl _), Nat.sub_self] at hcell
          have : cell = 0 := by simpa using hcell.symm
          rw [this] at hbig
          exact absurd hbig (by decide)
      have hlen : (0 : Int) < (cells.length : Int) := by omega
      refine (src_c (K := K) (C := E.C_Trade) S2 rfl) H2 (Same.refl H2) _ fun v H3 e3 a3 => ?_
      obtain ⟨rfl, _⟩ := a3
      have S3 := S2.mono e3
      refine (ev_iC (K := K) (C := E.C_Trade) (d := .int (cell / b)) (ev_at (k := cell) rfl) (ev_at (k := b) rfl) (wide_div (by omega) hb2 (by decide) (by decide)) (fun _ => .int _)) H3 (Same.refl H3) _ fun v H4 e4 a4 => ?_
      rw [Td.int_of a4]
      have S4 := S3.mono e4
      refine ⟨.ref c, rfl, ?_⟩
      refine (ev_iC (K := K) (C := E.C_Trade) (d := .int (k % (cells.length : Int))) (ev_int1 (src_k S4 rfl)) (ev_d (ev_lenL (ev_lstAt rfl S4.2.1)) (by rw [iL_len])) hlen (fun _ => .int _)) H4 (Same.refl H4) _ fun v H5 e5 a5 => ?_
      rw [Td.int_of a5]
      have S5 := S4.mono e5
      have j0 := Int.emod_nonneg k (show (cells.length : Int) ≠ 0 by omega)
      have j1 := Int.emod_lt_of_pos k hlen
      refine ⟨c, _, _, (k % (cells.length : Int)).toNat, rfl, rfl, S5.2.1, ?_, ?_⟩
      · unfold ixN
        rw [List.length_map, if_pos j0, if_pos (by omega)]
      · have S6 : Src (upd H5 c (.lst ((cells.map V.int).set (k % (cells.length : Int)).toNat (.int (cell / b))))) p c st k (cells.set (k % (cells.length : Int)).toNat (cell / b)) := by
          refine ⟨by rw [upd_ne hpc]; exact S5.1, ?_, hpc, by rw [List.length_set]; exact hl⟩
          rw [upd_same, List.map_set]
        refine (ev_iC (K := K) (C := E.C_Trade) (d := .int (cell % b)) (ev_int1 (ev_at (k := cell) rfl)) (ev_at (k := b) rfl) (by omega) (fun _ => .int _)) _ (Same.refl _) _ fun v H7 e7 a7 => ?_
        rw [Td.int_of a7]
        refine q _ _ (Int.emod_nonneg _ (by omega)) (Int.emod_lt_of_pos _ (by omega)) ?_ (S6.mono e7).ct
        exact (((Fr.of (((e1.trans e2).trans e3).trans (e4.trans e5)) _).trans (Fr.updIn (by simp))).trans (Fr.of e7 _))
    · rw [if_neg (by simpa using hbig)]
      refine (ev_iC (K := K) (C := E.C_Trade) (ev_int1 (ev_addI (ev_addI (ev_iC (src_s S2 rfl) ev_int (cmulR ⟨by decide, by decide⟩) (fun _ => .int _)) (ev_iC (ev_at (k := cell) rfl) ev_int (cmulR ⟨by decide, by decide⟩) (fun _ => .int _))) ev_int)) ev_int (by decide) (fun _ => .int _)) H2 (Same.refl H2) _ fun v H3 e3 a3 => ?_
      rw [Td.int_of a3]
      have S3 := S2.mono e3
      generalize ((st * 48271 + cell * 69621 + 11) % 2147483647) = st'
      refine ⟨.ref p, rfl, p, _, 0, 0, rfl, rfl, S3.1, rfl, ?_⟩
      have S4 : Src (upd H3 p (.lst ([V.int st, .ref c, .int k].set 0 (.int st')))) p c st' k cells := ⟨upd_same, by rw [upd_ne (Ne.symm hpc)]; exact S3.2.1, hpc, hl⟩
      refine (ev_addI (K := K) (C := E.C_Trade) (src_k S4 rfl) (ev_int (k := 1))) _ (Same.refl _) _ fun v H5 e5 a5 => ?_
      rw [Td.int_of a5]
      have S5 := S4.mono e5
      refine ⟨.ref p, rfl, p, _, 2, 2, rfl, rfl, S5.1, rfl, ?_⟩
      have S6 : Src (upd H5 p (.lst ([V.int st', .ref c, .int k].set 2 (.int (k + 1))))) p c st' (k + 1) cells := ⟨upd_same, by rw [upd_ne (Ne.symm hpc)]; exact S5.2.1, hpc, hl⟩
      refine (ev_iC (K := K) (C := E.C_Trade) (ev_int1 (ev_iC (src_s S6 rfl) (ev_int (k := 7)) ⟨by decide, by decide⟩ (fun _ => .int _))) (ev_at (k := b) rfl) (by omega) (fun _ => .int _)) _ (Same.refl _) _ fun v H7 e7 a7 => ?_
      rw [Td.int_of a7]
      refine q _ _ (Int.emod_nonneg _ (by omega)) (Int.emod_lt_of_pos _ (by omega)) ?_ (S6.mono e7).ct
      exact (((((Fr.of ((e1.trans e2).trans e3) _).trans (Fr.updIn (by simp))).trans (Fr.of e5 _)).trans (Fr.updIn (by simp))).trans (Fr.of e7 _))
end
end K1
set_option maxRecDepth 10000000
namespace K1
open PySem PySem.Spec PyProof.Rows L2 Pt
local macro_rules
  | `(tactic| walk_at "sz") => `(tactic| first
    | omega
    | decide
    | (simp; omega)
    | (simp [iL, row, pairsD]; omega))
  | `(tactic| walk_at "ea") => `(tactic| first
    | (with_reducible exact ea_nil)
    | ((with_reducible apply ea_consL); (focus (walk_at "ev")); (focus (walk_at "ea")))
    | ((with_reducible apply ea_consS); (focus (walk_at "ev")); (focus (walk_at "ea")))
    | ((with_reducible apply ea_cons); (focus (walk_at "ev")); (focus (walk_at "ea")))
    | ((with_reducible apply ea_consN); (focus (walk_at "en")); (focus (walk_at "ea"))))
  | `(tactic| walk_at "ed") => `(tactic| first
    | (with_reducible exact ed_nil)
    | ((with_reducible apply ed_cons); (focus (walk_at "ev")); (focus (walk_at "ed"))))
  | `(tactic| walk_at "en") => `(tactic| first
    | ((with_reducible apply en_lst); (focus (walk_at "ed")); (focus (simp)))
    | ((with_reducible apply en_listT); (focus (walk_at "ev")))
    | ((with_reducible apply en_addL); (focus (walk_at "ev")); (focus (walk_at "en")); (focus (walk_at "sz")))
    | ((with_reducible apply en_addN); (focus (walk_at "en")); (focus (walk_at "en")); (focus (walk_at "sz")))
    | ((with_reducible apply en_slL); (focus (walk_at "ev")); (focus (walk_at "eo")); (focus (walk_at "eo"))))
  | `(tactic| walk_at "eo") => `(tactic| first
    | (with_reducible exact eo_none)
    | ((with_reducible apply eo_some); (focus (walk_at "ev"))))
  | `(tactic| walk_at "et") => `(tactic| first
    | (with_reducible exact et_yes)
    | ((with_reducible apply et_test); (focus (walk_at "ev")))
    | ((with_reducible apply et_B); (focus (walk_at "ev")))
    | ((with_reducible apply et_truB); (focus (walk_at "ev")))
    | ((with_reducible apply et_truT); (focus (walk_at "ev")))
    | ((with_reducible apply et_not); (focus (walk_at "et")))
    | ((with_reducible apply et_and); (focus (walk_at "et")); (focus (intro _; walk_at "et")))
    | ((with_reducible apply et_or); (focus (walk_at "et")); (focus (intro _; walk_at "et"))))
  | `(tactic| walk_at "var") => `(tactic| first
    | ((with_reducible apply ev_varD); (focus (assumption)); (focus (rfl)))
    | ((with_reducible apply ev_varL); (focus (assumption)); (focus (rfl)))
    | ((with_reducible apply ev_varS); (focus (assumption)); (focus (rfl)))
    | ((with_reducible apply ev_varT); (focus (assumption)); (focus (rfl)))
    | ((with_reducible apply ev_varH); (focus (assumption)); (focus (rfl)))
    | ((with_reducible apply ev_varZ); (focus (assumption)); (focus (rfl))))
  | `(tactic| walk_at "ev") => `(tactic| first
    | walk_at "var"
    | (with_reducible exact ev_int)
    | (with_reducible exact ev_bl)
    | (with_reducible exact ev_str)
    | (with_reducible exact ev_non)
    | ((with_reducible apply ev_letters); (focus (walk_at "ev")))
    | ((with_reducible apply ev_pairs); (focus (walk_at "ev")))
    | ((with_reducible apply ev_addI); (focus (walk_at "ev")); (focus (walk_at "ev")))
    | ((with_reducible apply ev_addT); (focus (walk_at "ev")); (focus (walk_at "ev")); (focus (walk_at "sz")))
    | ((with_reducible apply ev_i0); (focus (walk_at "ev")); (focus (walk_at "ev")); (focus (first | exact fun _ => .int _ | exact fun _ => .bl _)))
    | ((with_reducible apply ev_iC); (focus (walk_at "ev")); (focus (walk_at "ev")); (focus (first | assumption | walk_at "cond")); (focus (exact fun _ => .int _)))
    | ((with_reducible apply ev_chain); (focus (walk_at "ev")); (focus (walk_at "ev")); (focus (walk_at "ev")))
    | ((with_reducible apply ev_eqI); (focus (walk_at "ev")); (focus (walk_at "ev")))
    | ((with_reducible apply ev_neI); (focus (walk_at "ev")); (focus (walk_at "ev")))
    | ((with_reducible apply ev_eqR); (focus (walk_at "ev")); (focus (walk_at "ev")))
    | ((with_reducible apply ev_neR); (focus (walk_at "ev")); (focus (walk_at "ev")))
    | ((with_reducible apply ev_isN); (focus (walk_at "ev")))
    | ((with_reducible apply ev_notN); (focus (walk_at "ev")))
    | ((with_reducible apply ev_in2); (focus (walk_at "ev")); (focus (walk_at "ev")); (focus (walk_at "ev")))
    | ((with_reducible apply ev_inP); (focus (walk_at "ev")); (focus (walk_at "ev")))
    | ((with_reducible apply ev_tup); (focus (walk_at "ed")); (focus (simp)))
    | ((with_reducible apply ev_lenT); (focus (walk_at "ev")))
    | ((with_reducible apply ev_lenL); (focus (walk_at "ev")))
    | ((with_reducible apply ev_lenS); (focus (walk_at "ev")))
    | ((with_reducible apply ev_lenN); (focus (walk_at "en")))
    | ((with_reducible apply ev_max2); (focus (walk_at "ev")); (focus (walk_at "ev")))
    | ((with_reducible apply ev_min2); (focus (walk_at "ev")); (focus (walk_at "ev")))
    | ((with_reducible apply ev_int1); (focus (walk_at "ev")))
    | ((with_reducible apply ev_tupleL); (focus (walk_at "ev")))
    | ((with_reducible apply ev_tupleN); (focus (walk_at "en")))
    | ((with_reducible apply ev_countT); (focus (walk_at "ev")); (focus (walk_at "ev")))
    | ((with_reducible apply ev_andV); (focus (walk_at "ev")); (focus (intro _; walk_at "ev")))
    | ((with_reducible apply ev_orV); (focus (walk_at "ev")); (focus (intro _; walk_at "ev")))
    | ((with_reducible apply ev_notV); (focus (walk_at "ev"))))
section
variable {P : Program} {w : World} {K : PySem.W.Frag} {mg : Str → Option Value} {base : Heap}
def spLaw (K : PySem.W.Frag) : Sp := fun vs H Q _ => ∃ (a : Addr) (ns : List Int), vs = [.ref a] ∧ Fz K H a (ns.map V.int) ∧ ns.length ≤ 63 ∧ ∀ H', Q (.bl true) H'
set_option maxHeartbeats 4000000 in
theorem ok_law (E : Nv K mg) : FnOk P w K mg base CX0 90 E.a_law E.d_law ["_law_script"] (spLaw K) := by
  refine E.F_law.ok sc_law (fun vs H Q _ h => ?_) (fun cdv A outer s H vs Q _ hr h => ?_)
  · obtain ⟨_, _, rfl, _⟩ := h
    rfl
  · obtain ⟨a, cells, rfl, hz, hl, q⟩ := h
    refine ⟨_, (pss_cons (ps_set (i := 1) sc_law.nd rfl (.inl rfl) (pe_call (ok__law_mix E) (hr.mono (by first | decide | omega)) (by rfl) E.m__law_mix E.F__law_mix.kp E.b__law_mix .nil pass0 (pa_cons (pv 0) (pa_cons pe_int pa_nil))))
      (pss_cons (ps_set (i := 2) sc_law.nd rfl (.inl rfl) (pe_op (op_addK K) pe_int (pe_call (ok__law_next E) (hr.mono (by first | decide | omega)) (by rfl) E.m__law_next E.F__law_next.kp E.b__law_next .nil pass0 (pa_cons (pv 1) (pa_cons pe_int pa_nil)))))
      (pss_cons (ps_set (i := 3) sc_law.nd rfl (.inl rfl) (pe_call (ok__law_pairs E) (hr.mono (by first | decide | omega)) (by rfl) E.m__law_pairs E.F__law_pairs.kp E.b__law_pairs .nil pass0 (pa_cons (pv 1) (pa_cons (pv 2) pa_nil))))
      (pss_cons (ps_set (i := 4) sc_law.nd rfl (.inr rfl) (pe_make E.mk_Trade (ok_Trade___init__ E) (hr.mono (by first | decide | omega)) (by rfl) E.m_Trade E.b_Trade___init__ .nil pass0 (pa_cons (pv 2) (pa_cons (pv 3) pa_nil))))
      (pss_cons (ps_set (i := 5) sc_law.nd rfl (.inl rfl) (Pt.pe_lock (pe_call (ok__law_groups E) (hr.mono (by first | decide | omega)) (by rfl) E.m__law_groups E.F__law_groups.kp E.b__law_groups .nil pass0 (pa_cons (pv 2) (pa_cons (pv 3) pa_nil)))))
      (pss_cons (ps_if (pt_cmpR (op_neK K hr.units) (Pt.pe_lock (pe_call (ok_groups E) (hr.mono (by first | decide | omega)) (by rfl) E.m_groups E.F_groups.kp E.b_groups .nil pass0 (pa_cons (pv 4) pa_nil))) (pv 5) (nomark _)) (pss_one (ps_ret pe_bl)) pss_nil)
      (pss_cons (ps_setLc (i := 6) (own := [("_law_some", 14)]) (g := gName 14) rfl sc_law.nd rfl rfl (sw_true rfl rfl rfl (by decide +kernel)) (pi_listK K (pv 5)) (blkOk_by (own := [("_law_some", 14)]) (N := N_law) (sc := defScope s_law) (by decide +kernel)) (fun _ _ _ _ _ => (pg_name (i := 14) sc_law.nd rfl (Or.inl rfl))) (fun _ _ _ _ _ => pts_nil) (fun _ _ _ _ _ => (pe_callB (call_lenK K) (by rfl) E.n_len (by decide +kernel) (pa_cons (pv 14) pa_nil))))
      (pss_cons (ps_set (i := 7) sc_law.nd rfl (.inr rfl) (pe_lst pa_nil))
      (pss_cons (ps_for PassesOwn.never rfl (pi_range2 (by rfl) E.n_range (pa_cons pe_int (pa_cons (pe_op (op_addK K) (pe_callB (cr_maxK K rfl) (by rfl) E.n_max (by decide +kernel) (pa_cons (pv 6) pa_nil)) pe_int) pa_nil))) (pg_name (i := 8) sc_law.nd rfl (.inr rfl))
      (pss_cons (ps_set (i := 9) sc_law.nd rfl (.inr rfl) (pe_callB (call_lenK K) (by rfl) E.n_len (by decide +kernel) (pa_cons (pe_lc (own := [("_law_x", 15)]) (g := gName 15) (by rfl) sc_law.nd (pi_listK K (pv 6)) (blkOk_by (own := [("_law_x", 15)]) (N := N_law) (sc := defScope s_law) (by decide +kernel)) (fun _ _ _ _ _ => (pg_name (i := 15) sc_law.nd rfl (Or.inl rfl))) (fun _ _ _ _ _ => (pts_one (pt_cmpR (op_eqK K hr.units) (pv 15) (pv 8) (nomark _)))) (fun _ _ _ _ _ => (pv 15))) pa_nil)))
      (pss_one (ps_expr (pe_bm PySem.F.plainAttrs_list PySem.F.slot_list_append PySem.F.type_list_append mt_append (pv 7) (pa_cons (pe_ifExp (pt_cmpR (op_neK K hr.units) (pe_op op_mul (pe_op op_fdiv (pv 8) pe_int) pe_int) (pv 8) (nomark _)) (pv 9) (pe_un un_neg (pv 9))) pa_nil))))))
      (pss_cons (ps_set (i := 10) sc_law.nd rfl (.inl rfl) (pe_call (ok__law_next E) (hr.mono (by first | decide | omega)) (by rfl) E.m__law_next E.F__law_next.kp E.b__law_next .nil pass0 (pa_cons (pv 1) (pa_cons (pe_ix (ix_K K) (pe_lst (pa_cons pe_int (pa_cons pe_int (pa_cons pe_int (pa_cons pe_int (pa_cons pe_int (pa_cons pe_int pa_nil))))))) (pe_op op_sub (pv 2) pe_int) (fun _ _ => rfl)) pa_nil))))
      (pss_cons (ps_if (pt_cmpR (op_neK K hr.units) (pe_call (ok_how_many E) (hr.mono (by first | decide | omega)) (by rfl) E.m_how_many E.F_how_many.kp E.b_how_many .nil pass0 (pa_cons (pv 4) (pa_cons (pv 10) pa_nil))) (pe_lenSetK K rfl hr.units65 (by rfl) E.n_len (by rfl) E.n_set (pe_lc (own := [("_law_row_here", 16)]) (g := gName 16) (by rfl) sc_law.nd (pi_listK K (pe_call (ok__law_every E) (hr.mono (by first | decide | omega)) (by rfl) E.m__law_every E.F__law_every.kp E.b__law_every .nil pass0 (pa_cons (pv 2) (pa_cons (pv 10) pa_nil)))) (blkOk_by (own := [("_law_row_here", 16)]) (N := N_law) (sc := defScope s_law) (by decide +kernel)) (fun _ _ _ _ _ => (pg_name (i := 16) sc_law.nd rfl (Or.inl rfl))) (fun _ _ _ _ _ => pts_nil) (fun _ _ _ _ _ => (pe_call (ok_least E) (hr.mono (by first | decide | omega)) (by rfl) E.m_least E.F_least.kp E.b_least .nil pass0 (pa_cons (pv 4) (pa_cons (pv 16) pa_nil)))))) (nomark _)) (pss_one (ps_ret pe_bl)) pss_nil)
      (pss_cons (ps_set (i := 10) sc_law.nd rfl (.inl rfl) (pe_call (ok__law_next E) (hr.mono (by first | decide | omega)) (by rfl) E.m__law_next E.F__law_next.kp E.b__law_next .nil pass0 (pa_cons (pv 1) (pa_cons (pe_ix (ix_K K) (Pt.pe_lock (pe_lst (pa_cons pe_int (pa_cons pe_int (pa_cons pe_int pa_nil))))) (pe_call (ok__law_next E) (hr.mono (by first | decide | omega)) (by rfl) E.m__law_next E.F__law_next.kp E.b__law_next .nil pass0 (pa_cons (pv 1) (pa_cons pe_int pa_nil))) (fun _ _ => rfl)) pa_nil))))
      (pss_cons (ps_set (i := 11) sc_law.nd rfl (.inl rfl) (pe_call (ok__law_row_of E) (hr.mono (by first | decide | omega)) (by rfl) E.m__law_row_of E.F__law_row_of.kp E.b__law_row_of .nil pass0 (pa_cons (pv 7) (pa_cons (pv 10) pa_nil))))
      (pss_cons (ps_set (i := 12) sc_law.nd rfl (.inr rfl) (pe_op (op_addK K) pe_int (pe_call (ok__law_nextW E) (hr.mono (by first | decide | omega)) (by rfl) E.m__law_next E.F__law_next.kp E.b__law_next .nil pass0 (pa_cons (pv 1) (pa_cons (pe_ix (ix_K K) (Pt.pe_lock (pe_lst (pa_cons pe_int (pa_cons (pe_op op_pow pe_int pe_int) pa_nil)))) (pe_call (ok__law_next E) (hr.mono (by first | decide | omega)) (by rfl) E.m__law_next E.F__law_next.kp E.b__law_next .nil pass0 (pa_cons (pv 1) (pa_cons pe_int pa_nil))) (fun _ _ => rfl)) pa_nil)))))
      (pss_cons (ps_if (PW.pt (pw_or (pt_cmpR (op_neK K hr.units) (pe_call (ok_how_many E) (hr.mono (by first | decide | omega)) (by rfl) E.m_how_many E.F_how_many.kp E.b_how_many .nil pass0 (pa_cons (pv 4) (pa_cons (pv 10) pa_nil))) (pe_ix (ix_K K) (pv 11) (pe_un un_neg pe_int) (fun _ _ => rfl)) (nomark _)) (pw_or1 (pt_cmpR (op_neK K hr.units) (pe_call (ok_how_many_by E) (hr.mono (by first | decide | omega)) (by rfl) E.m_how_many_by E.F_how_many_by.kp E.b_how_many_by .nil pass0 (pa_cons (pv 4) (pa_cons (pv 10) (pa_cons (pv 12) pa_nil)))) (pe_op op_mod (pe_ix (ix_K K) (pv 11) (pe_un un_neg pe_int) (fun _ _ => rfl)) (pv 12)) (nomark _))))) (pss_one (ps_ret pe_bl)) pss_nil)
      (pss_cons (ps_set (i := 13) sc_law.nd rfl (.inr rfl) (pe_op (op_addK K) pe_int (pe_call (ok__law_nextW E) (hr.mono (by first | decide | omega)) (by rfl) E.m__law_next E.F__law_next.kp E.b__law_next .nil pass0 (pa_cons (pv 1) (pa_cons (pe_op op_sub (pe_op op_pow pe_int pe_int) pe_int) pa_nil)))))
      (pss_cons (ps_set (i := 9) sc_law.nd rfl (.inr rfl) (pe_lc (own := [("_law_k", 8)]) (g := gName 8) (by rfl) sc_law.nd (pi_range1 (by rfl) E.n_range (pa_cons (pe_callB (call_lenK K) (by rfl) E.n_len (by decide +kernel) (pa_cons (pv 7) pa_nil)) pa_nil)) (blkOk_by (own := [("_law_k", 8)]) (N := N_law) (sc := defScope s_law) (by decide +kernel)) (fun _ _ _ _ _ => (pg_name (i := 8) sc_law.nd rfl (Or.inl rfl))) (fun _ _ _ _ _ => pts_nil) (fun _ _ _ _ _ => (pe_call (ok_how_many_by E) (hr.mono (by first | decide | omega)) (by rfl) E.m_how_many_by E.F_how_many_by.kp E.b_how_many_by .nil pass0 (pa_cons (pv 4) (pa_cons (pe_op op_sub (pe_op op_sub (pv 13) (pv 8)) pe_int) (pa_cons (pv 12) pa_nil)))))))
      (pss_cons (ps_if (pt_cmpR (op_neK K hr.units) (pe_call (ok_how_many_by E) (hr.mono (by first | decide | omega)) (by rfl) E.m_how_many_by E.F_how_many_by.kp E.b_how_many_by .nil pass0 (pa_cons (pv 4) (pa_cons (pv 13) (pa_cons (pv 12) pa_nil)))) (pe_op op_mod (pe_callB (cr_sumK K rfl) (by rfl) E.n_sum (by decide +kernel) (pa_cons (pe_lc (own := [("_law_k", 8)]) (g := gName 8) (by rfl) sc_law.nd (pi_range1 (by rfl) E.n_range (pa_cons (pe_callB (call_lenK K) (by rfl) E.n_len (by decide +kernel) (pa_cons (pv 7) pa_nil)) pa_nil)) (blkOk_by (own := [("_law_k", 8)]) (N := N_law) (sc := defScope s_law) (by decide +kernel)) (fun _ _ _ _ _ => (pg_name (i := 8) sc_law.nd rfl (Or.inl rfl))) (fun _ _ _ _ _ => pts_nil) (fun _ _ _ _ _ => (pe_op op_mulW (pe_ix (ix_K K) (pv 7) (pv 8) (fun _ _ => rfl)) (pe_ix (ix_K K) (pv 9) (pv 8) (fun _ _ => rfl))))) pa_nil)) (pv 12)) (nomark _)) (pss_one (ps_ret pe_bl)) pss_nil)
      (pss_cons (ps_if (PW.pt (pw_or (pt_cmpR (op_eqK K hr.units) (pv 2) pe_int (nomark _)) (pw_or1 (PW.pt (pw_and (pt_cmpR (op_eqK K hr.units) (pv 2) pe_int (nomark _)) (pw_and1 (pt_cmpR (op_neK K hr.units) (pv 3) (pe_tupF pa_nil) (nomark _)))))))) (pss_one (ps_ret (pe_cmpR (op_eqK K hr.units) (pe_call (ok_how_many_by E) (hr.mono (by first | decide | omega)) (by rfl) E.m_how_many_by E.F_how_many_by.kp E.b_how_many_by .nil pass0 (pa_cons (pv 4) (pa_cons (pv 13) (pa_cons (pv 12) pa_nil)))) (pe_op op_mod (pe_ifExp (pt_cmpR (op_eqK K hr.units) (pv 2) pe_int (nomark _)) pe_int (pe_op (op_addK K) (pv 13) pe_int)) (pv 12)) (nomark _)))) pss_nil)
      (pss_one (ps_ret pe_bl))))))))))))))))))))), ?_⟩
    have w0 : Wd K E.C_Trade [] [] H H _ [.z a (iL cells), .u, .u, .u, .u, .u, .u, .u, .u, .u, .u, .u, .u, .u, .u, .u, .u] := Wd.start1 (N := N_law) (c1 := .z a (iL cells)) ⟨rfl, _, hz, TdAll.of_iL cells⟩
    refine q_mix w0 rfl hl fun p c σ1 H1 w1 => ?_
    refine q_drawAdd w1 rfl (by decide) (by decide) fun r σ2 H2 r0 r1 w2 => ?_
    generalize hn : 1 + r = ni at w2
    obtain ⟨n, rfl⟩ : ∃ n : Nat, ni = (n : Int) := ⟨ni.toNat, by omega⟩
    have n1 : (1 : Int) ≤ (n : Int) := by omega
    have n6 : (n : Int) ≤ 6 := by omega
    have m1 : 1 ≤ n := by omega
    have m6 : n ≤ 6 := by omega
    refine q_drawA w2 rfl (as := [.c (.d (.int (n : Nat)))]) (ea_cons (ev_var w2 rfl) ea_nil) ⟨n, rfl, n1, n6⟩ fun d σ3 H3 hR w3 => ?_
    obtain ⟨n', ps, e, hok, rfl⟩ := hR
    obtain rfl : (n : Int) = n' := by
      simp only [List.cons.injEq, Ag.c.injEq, Ct.d.injEq, PyData.int.injEq, and_true] at e
      exact e
    have w3' : Wd K E.C_Trade [] [] H H3 σ3 [.z a (iL cells), .h p c, .d (.int (n : Nat)), .d (pairsD ps), .u, .u, .u, .u, .u, .u, .u, .u, .u, .u, .u, .u, .u] := w3
    refine q_asg (i := 4) (c := .t n ps) w3' (ev_makeT (ev_var (i := 2) w3' rfl) (ev_var (i := 3) w3' rfl) n1 n6 hok) fun _ σ4 H4 _ w4 => ?_
    have w4' : Wd K E.C_Trade [] [] H H4 σ4 [.z a (iL cells), .h p c, .d (.int (n : Nat)), .d (pairsD ps), .t n ps, .u, .u, .u, .u, .u, .u, .u, .u, .u, .u, .u, .u] := w4
    obtain ⟨Gr, eGr⟩ : ∃ Gr, (grL ps n).mergeSort leR = Gr := ⟨_, rfl⟩
    have pm : Gr.Perm (grL ps n) := eGr ▸ List.mergeSort_perm _ _
    have gl : Gr.length ≤ 64 := by
      rw [pm.length_eq]
      exact Nat.le_trans (gr_len ps n) (Nat.le_trans (Nat.pow_le_pow_right (by decide) m6) (by decide))
    refine q_asgD w4' (d := .list (Gr.map row)) (ev_lock (en_call (ea_cons (ev_var (i := 2) w4' rfl) (ea_cons (ev_var (i := 3) w4' rfl) ea_nil)) ⟨n, ps, hok, m6, rfl, by rw [eGr]⟩)) fun σ5 H5 w5 => ?_
    have w5' : Wd K E.C_Trade [] [] H H5 σ5 [.z a (iL cells), .h p c, .d (.int (n : Nat)), .d (pairsD ps), .t n ps, .d (.list (Gr.map row)), .u, .u, .u, .u, .u, .u, .u, .u, .u, .u, .u] := w5
    refine s_when w5' (b := false) (et_cast (et_test (ev_neD (x1 := .list (Gr.map row)) (ev_lock (en_call (ea_cons (ev_var (i := 4) w5' rfl) ea_nil) ⟨n, ps, m6, rfl, by rw [eGr]⟩)) (ev_var (i := 5) w5' rfl) (shaped_rowsQ _) (shaped_rowsQ _))) (by rw [eqv_rowsQ]; rfl)) (fun z => by cases z) (fun _ H6 w6 => ?_)
    refine q_asgN w6 (en_cast (es := iL (Gr.map fun S => ((S.length : Nat) : Int))) (en_lcD (j := 14) (l := Gr) (mk := row) w6 (ev_var (i := 5) w6 rfl) (fun _ => true) (fun S => .int (S.length : Nat)) (by omega) (fun S _ σ1 H1 w1 => et_yes) (fun S _ σ1 H1 w1 _ => ev_d (ev_lenT (ev_var (i := 14) w1 rfl)) (by rw [iL_len]))) (by rw [kept_all]; unfold iL; rw [List.map_map]; rfl)) fun pz σ7 H7 _ w7 => ?_
    have w7' : Wd K E.C_Trade [] [] H H7 σ7 [.z a (iL cells), .h p c, .d (.int (n : Nat)), .d (pairsD ps), .t n ps, .d (.list (Gr.map row)), .l pz (iL (Gr.map fun S => ((S.length : Nat) : Int))), .u, .u, .u, .u, .u, .u, .u, .u, .u, .u] := w7
    refine q_asgN w7' (en_lst (ds := iL (wL n ps 0)) ed_nil (Nat.zero_le _)) fun pw σ8 H8 _ w8 => ?_
    have w8' : Wd K E.C_Trade [] [] H H8 σ8 [.z a (iL cells), .h p c, .d (.int (n : Nat)), .d (pairsD ps), .t n ps, .d (.list (Gr.map row)), .l pz (iL (Gr.map fun S => ((S.length : Nat) : Int))), .l pw (iL (wL n ps 0)), .u, .u, .u, .u, .u, .u, .u, .u, .u] := w8
    obtain ⟨M, ⟨S0, hS0, eS0⟩, top⟩ := top_size Gr (fun z => by
      have := (pm.mem_iff (a := [])).mpr (((gr_groups (n := (n : Nat)) (ps := ps) n).mem []).mpr ⟨fun x hx => (by cases hx), List.Pairwise.nil, fun x hx => (by cases hx)⟩)
      rw [z] at this
      cases this)
    have hM : M ≤ n := eS0 ▸ gr_size ps n S0 (pm.mem_iff.mp hS0)
    have far : ∀ j, M < j → cS (grL ps n) j = 0 := fun j hj => by
      unfold cS
      rw [List.filter_eq_nil_iff.mpr fun S hS => by
        have := top S (pm.mem_iff.mpr hS)
        simp
        omega]
      rfl
    refine q_forR2 w8' (lo := 1) (n := (M : Int) + 1) (ea_cons ev_int (ea_cons (ev_addI (ev_maxL (M := (M : Nat)) (ev_var (i := 6) w8' rfl) (List.mem_map.mpr ⟨S0, hS0, by rw [eS0]⟩) (fun y hy => by
        obtain ⟨S, hS, rfl⟩ := List.mem_map.mp hy
        have := top S hS
        omega)) ev_int) ea_nil)) (by omega) (fun t σ H' => ∃ c8 c9 c15, Wd K E.C_Trade [] [] H H' σ [.z a (iL cells), .h p c, .d (.int (n : Nat)), .d (pairsD ps), .t n ps, .d (.list (Gr.map row)), .l pz (iL (Gr.map fun S => ((S.length : Nat) : Int))), .l pw (iL (wL n ps t)), c8, c9, .u, .u, .u, .u, .u, c15, .u]) (fun H9 w9 => ⟨_, _, _, w9⟩) ?_ ?_
    · rintro t σ H' ht ⟨c8, c9, c15, w9⟩
      have e1 : 1 + ((t : Nat) : Int) = ((t + 1 : Nat) : Int) := by omega
      rw [e1]
      have wa : Wd K E.C_Trade [] [] H H' _ [.z a (iL cells), .h p c, .d (.int (n : Nat)), .d (pairsD ps), .t n ps, .d (.list (Gr.map row)), .l pz (iL (Gr.map fun S => ((S.length : Nat) : Int))), .l pw (iL (wL n ps t)), .d (.int (t + 1 : Nat)), c9, .u, .u, .u, .u, .u, c15, .u] := w9.set 8 (v := .int (t + 1 : Nat)) (c := .d (.int (t + 1 : Nat))) (Td.int _)
      have cnt : (kept (fun S : List Int => decide ((((S.length : Nat) : Int)) = ((t + 1 : Nat) : Int))) (fun S : List Int => PyData.int (S.length : Nat)) Gr).length = ((grL ps n).filter fun S => decide (S.length = t + 1)).length := by
        unfold kept
        rw [List.length_map, ← (pm.filter fun S => decide (S.length = t + 1)).length_eq]
        congr 1
        refine List.filter_congr fun S _ => ?_
        rw [decide_eq_decide]
        omega
      have cle : ((grL ps n).filter fun S => decide (S.length = t + 1)).length ≤ 64 := Nat.le_trans (List.length_filter_le _ _) (pm.length_eq ▸ gl)
      refine q_asgD wa (d := .int (((grL ps n).filter fun S => decide (S.length = t + 1)).length : Nat)) (ev_d (ev_lenN (en_lcS (j := 15) (l := Gr) (mk := fun S => PyData.int (S.length : Nat)) wa (ev_lend (by
          have z := ev_var (i := 6) wa rfl
          unfold iL at z
          rw [List.map_map] at z
          exact z)) (fun S : List Int => decide ((((S.length : Nat) : Int)) = ((t + 1 : Nat) : Int))) (fun S => PyData.int (S.length : Nat)) (by omega) (fun S _ σ1 H1 w1 => et_test (ev_eqI (ev_var (i := 15) w1 rfl) (ev_var (i := 8) w1 rfl))) (fun S _ σ1 H1 w1 _ => ev_var (i := 15) w1 rfl))) (by rw [cnt])) fun σb Hb wb => ?_
      have wb' : Wd K E.C_Trade [] [] H Hb σb [.z a (iL cells), .h p c, .d (.int (n : Nat)), .d (pairsD ps), .t n ps, .d (.list (Gr.map row)), .l pz (iL (Gr.map fun S => ((S.length : Nat) : Int))), .l pw (iL (wL n ps t)), .d (.int (t + 1 : Nat)), .d (.int (((grL ps n).filter fun S => decide (S.length = t + 1)).length : Nat)), .u, .u, .u, .u, .u, c15, .u] := wb
      have cs := cS_count (grL ps n) (t + 1)
      generalize ((grL ps n).filter fun S => decide (S.length = t + 1)).length = cn at wb' cs cle
      refine s_app wb' (i := 7) (d := .int (- cS (grL ps n) (t + 1))) rfl (ev_if (et_test (ev_neI (ev_iC (d := .int (((t + 1 : Nat) : Int) / 2 * 2)) (ev_iC (d := .int (((t + 1 : Nat) : Int) / 2)) (ev_var (i := 8) wb' rfl) ev_int ⟨by decide, by decide⟩ (fun _ => .int _)) ev_int (.inr ⟨by decide, by decide⟩) (fun _ => .int _)) (ev_var (i := 8) wb' rfl))) (fun y => ev_d (ev_var (i := 9) wb' rfl) ?_) (fun y => ev_d (ev_neg (ev_var (i := 9) wb' rfl)) ?_)) (by rw [iL_len]; unfold wL; rw [List.length_map, List.length_range]; omega) fun Hc wc => ⟨.d (.int (t + 1 : Nat)), .d (.int (cn : Nat)), c15, ?_⟩
      · have y : ¬ (((t + 1 : Nat) : Int) / 2 * 2 = ((t + 1 : Nat) : Int)) := by simpa using y
        rw [cs, if_neg (by omega)]
        congr 1
        omega
      · have y : ((t + 1 : Nat) : Int) / 2 * 2 = ((t + 1 : Nat) : Int) := by simpa using y
        rw [cs, if_pos (by omega)]
        congr 1
        omega
      · have e4 : iL (wL n ps (t + 1)) = iL (wL n ps t) ++ [.int (- cS (grL ps n) (t + 1))] := by
          unfold wL
          rw [List.range_succ, List.map_append, iL_app]
          rfl
        rw [e4]
        exact wc
    rintro σ9 H9 ⟨c8, c9, c15, w9⟩
    rw [show ((M : Int) + 1 - 1).toNat = M by omega] at w9
    have lw : (iL (wL n ps M)).length = M := by rw [iL_len]; unfold wL; rw [List.length_map, List.length_range]
    have b1 : 3 ≤ lenB (n : Int) ∧ lenB (n : Int) ≤ 7 := by
      unfold lenB
      constructor <;> (repeat' split) <;> omega
    refine q_draw w9 (i := 1) rfl (b := lenB (n : Int)) (ev_ixN (ds := iL [6, 7, 5, 4, 3, 3]) (en_lst (ed_cons ev_int (ed_cons ev_int (ed_cons ev_int (ed_cons ev_int (ed_cons ev_int (ed_cons ev_int ed_nil)))))) (Nat.le_of_ble_eq_true rfl)) (ev_i0 (ev_var (i := 2) w9 rfl) ev_int (fun _ => .int _)) (lenB_at n1 n6)) (by omega) (by omega) fun r10 σa Ha r100 r101 wa => ?_
    obtain ⟨k, rfl⟩ : ∃ k : Nat, r10 = (k : Int) := ⟨r10.toNat, by omega⟩
    have few := lenB_few m1 m6 r101
    have wa' : Wd K E.C_Trade [] [] H Ha σa [.z a (iL cells), .h p c, .d (.int (n : Nat)), .d (pairsD ps), .t n ps, .d (.list (Gr.map row)), .l pz (iL (Gr.map fun S => ((S.length : Nat) : Int))), .l pw (iL (wL n ps M)), c8, c9, .d (.int (k : Nat)), .u, .u, .u, .u, c15, .u] := wa
    refine s_when wa' (b := false) (et_cast (et_test (ev_neI (ev_call (ea_cons (ev_var (i := 4) wa' rfl) (ea_cons (ev_var (i := 10) wa' rfl) ea_nil)) ⟨n, ps, k, hok, m6, by omega, rfl, rfl⟩)
      (ev_lenSetN (L := (allR n k).map (leastL ps)) (D := enL n ps k 0) (en_cast (en_lcD (j := 16) (l := allR n k) (mk := row) wa' (ev_call (ea_cons (ev_var (i := 2) wa' rfl) (ea_cons (ev_var (i := 10) wa' rfl) ea_nil)) ⟨n, k, m6, by omega, by omega, rfl, rfl⟩) (fun _ => true) (fun r => row (leastL ps r)) (by rw [allR_len]; omega) (fun r hr σ1 H1 w1 => et_yes)
        (fun r hr σ1 H1 w1 _ => ev_call (ea_cons (ev_var (i := 4) w1 rfl) (ea_cons (ev_var (i := 16) w1 rfl) ea_nil)) ⟨n, ps, r, hok, by omega, n6, ⟨by rw [(mem_allR.mp hr).2]; omega, (mem_allR.mp hr).1⟩, rfl, rfl⟩)) (by rw [kept_all, List.map_map]; rfl)) (by rw [List.length_map, allR_len]; omega) (en_lrows hok k).nd (every_distinct hok k)))) (by rw [en_len]; simp)) (fun z => by cases z) (fun _ Hb wb => ?_)
    refine q_asgI (z := 10) wb (di_next (R := fun b => b ∈ [60, 60, 501]) rfl (de_list (ns := [60, 60, 501]) (fun H => ev_lock (en_lst (ed_cons ev_int (ed_cons ev_int (ed_cons ev_int ed_nil))) (Nat.le_of_ble_eq_true rfl))) rfl (by decide) (by decide) rfl) (fun b hb => by
      simp only [List.mem_cons, List.not_mem_nil, or_false] at hb
      omega)) fun r11 σc Hc hr11 wc => ?_
    obtain ⟨bb, hbb, r110, r111⟩ := hr11
    have r112 : r11 < 501 := by
      simp only [List.mem_cons, List.not_mem_nil, or_false] at hbb
      omega
    obtain ⟨l, rfl⟩ : ∃ l : Nat, r11 = (l : Int) := ⟨r11.toNat, by omega⟩
    have wc' : Wd K E.C_Trade [] [] H Hc σc [.z a (iL cells), .h p c, .d (.int (n : Nat)), .d (pairsD ps), .t n ps, .d (.list (Gr.map row)), .l pz (iL (Gr.map fun S => ((S.length : Nat) : Int))), .l pw (iL (wL n ps M)), c8, c9, .d (.int (l : Nat)), .u, .u, .u, .u, c15, .u] := wc
    refine q_asgN wc' (en_call (ea_consL (ev_var (i := 7) wc' rfl) (ea_cons (ev_var (i := 10) wc' rfl) ea_nil)) ⟨n, ps, M, l, hok, m6, hM, far, by omega, rfl, rfl⟩) fun pd σd Hd _ wd => ?_
    have wd' : Wd K E.C_Trade [] [] H Hd σd [.z a (iL cells), .h p c, .d (.int (n : Nat)), .d (pairsD ps), .t n ps, .d (.list (Gr.map row)), .l pz (iL (Gr.map fun S => ((S.length : Nat) : Int))), .l pw (iL (wL n ps M)), c8, c9, .d (.int (l : Nat)), .l pd (iL (foL n ps (l + 1))), .u, .u, .u, c15, .u] := wd
    refine q_asgI (z := 12) wd' (di_add (de_nextW (R := fun b => b ∈ [9, 1000000000]) rfl (de_list (ns := [9, 1000000000]) (fun H => ev_lock (en_lst (ed_cons ev_int (ed_cons (ev_iC (d := .int 1000000000) ev_int ev_int ⟨by decide, by decide, by decide⟩ (fun _ => .int _)) ed_nil)) (Nat.le_of_ble_eq_true rfl))) rfl (by decide) (by decide) rfl) (fun b hb => by
      simp only [List.mem_cons, List.not_mem_nil, or_false] at hb
      rcases hb with rfl | rfl
      · exact ⟨by decide, Nat.lt_of_lt_of_le (show 9 < 2 ^ 40 by decide) (Nat.pow_le_pow_right (by decide) (by decide))⟩
      · exact ⟨by decide, Nat.lt_of_lt_of_le (show 1000000000 < 2 ^ 40 by decide) (Nat.pow_le_pow_right (by decide) (by decide))⟩))) fun m σe He hm we => ?_
    obtain ⟨mr, ⟨mb, hmb, mr0, mr1⟩, rfl⟩ := hm
    have mr2 : mr < 1000000000 := by
      simp only [List.mem_cons, List.not_mem_nil, or_false] at hmb
      omega
    generalize hmm : 1 + mr = m at we
    have mm1 : 1 ≤ m := by omega
    have mm2 : m ≤ 1000000000 := by omega
    have we' : Wd K E.C_Trade [] [] H He σe [.z a (iL cells), .h p c, .d (.int (n : Nat)), .d (pairsD ps), .t n ps, .d (.list (Gr.map row)), .l pz (iL (Gr.map fun S => ((S.length : Nat) : Int))), .l pw (iL (wL n ps M)), c8, c9, .d (.int (l : Nat)), .l pd (iL (foL n ps (l + 1))), .d (.int m), .u, .u, c15, .u] := we
    have by_ : ∀ {σ : L2.St} {H1 : Hp} {te : TE} {F : Nat} {c8 c9 c13 : Ct}, Wd K E.C_Trade [] [] H H1 σ [.z a (iL cells), .h p c, .d (.int (n : Nat)), .d (pairsD ps), .t n ps, .d (.list (Gr.map row)), .l pz (iL (Gr.map fun S => ((S.length : Nat) : Int))), .l pw (iL (wL n ps M)), c8, c9, .d (.int (l : Nat)), .l pd (iL (foL n ps (l + 1))), .d (.int m), c13, .u, c15, .u] → EvC K E.C_Trade te σ H1 (.d (.int (F : Nat))) → F ≤ 10 ^ 30 → EvC K E.C_Trade (tCall (spC K E.C_Trade A_how_many_by) [] E0 (tCons (tVar 4) (tCons te (tCons (tVar 12) tNil)))) σ H1 (.d (.int (termL (scL n ps) F m))) := fun {σ H1 te F c8 c9 c13} w he hF => ev_call (ea_cons (ev_var (i := 4) w rfl) (ea_cons he (ea_cons (ev_var (i := 12) w rfl) ea_nil))) ⟨n, ps, F, m, hok, m1, m6, hF, mm1, mm2, rfl, rfl⟩
    have l30 : l ≤ 10 ^ 30 := Nat.le_trans (show l ≤ 501 by omega) (by decide)
    refine s_when we' (b := false) (et_cast (et_or (et_test (ev_neI (ev_call (ea_cons (ev_var (i := 4) we' rfl) (ea_cons (ev_var (i := 10) we' rfl) ea_nil)) ⟨n, ps, l, hok, m6, by omega, rfl, rfl⟩) (ev_ixL (ev_var (i := 11) we' rfl) (ev_neg (k := 1) ev_int) (fo_last n ps l)))) (fun _ => et_test (ev_neI (by_ we' (ev_var (i := 10) we' rfl) l30) (ev_iC (d := .int (((cnL n ps l 0 : Nat) : Int) % m)) (ev_ixL (ev_var (i := 11) we' rfl) (ev_neg (k := 1) ev_int) (fo_last n ps l)) (ev_var (i := 12) we' rfl) (by omega) (fun _ => .int _))))) (by rw [termL_cn hok m1 l30]; simp)) (fun z => by cases z) (fun _ Hf wf => ?_)
    refine q_asgI (z := 13) wf (di_add (de_nextW (R := fun b => b = 10 ^ 30 - 10) rfl (di_pure fun H _ => ev_i0 (ev_iC (d := .int (10 ^ 30)) ev_int ev_int ⟨by decide, by decide, by decide⟩ (fun _ => .int _)) ev_int (fun _ => .int _)) (fun b hb => by
      subst hb
      exact ⟨by decide, Nat.lt_of_lt_of_le (show ((10 : Int) ^ 30 - 10).natAbs < 2 ^ 200 by decide) (Nat.pow_le_pow_right (by decide) (by decide))⟩))) fun Fi σg Hg hF wg => ?_
    obtain ⟨fr, ⟨fb, rfl, fr0, fr1⟩, rfl⟩ := hF
    generalize hff : 10 + fr = Fi at wg
    obtain ⟨F, rfl⟩ : ∃ F : Nat, Fi = (F : Int) := ⟨Fi.toNat, by omega⟩
    have F10 : 10 ≤ F := by omega
    have F30 : F ≤ 10 ^ 30 := by omega
    have wg' : Wd K E.C_Trade [] [] H Hg σg [.z a (iL cells), .h p c, .d (.int (n : Nat)), .d (pairsD ps), .t n ps, .d (.list (Gr.map row)), .l pz (iL (Gr.map fun S => ((S.length : Nat) : Int))), .l pw (iL (wL n ps M)), c8, c9, .d (.int (l : Nat)), .l pd (iL (foL n ps (l + 1))), .d (.int m), .d (.int (F : Nat)), .u, c15, .u] := wg
    refine q_asgN wg' (en_cast (es := iL ((List.range M).map fun i => termL (scL n ps) (F - i - 1) m)) (en_lcR (j := 8) (n := ((iL (wL n ps M)).length : Nat)) wg' (ea_cons (ev_lenL (ev_var (i := 7) wg' rfl)) ea_nil) (fun _ => true) (fun i => .int (termL (scL n ps) (F - i - 1) m)) (by omega) (fun i hi σ7 H7 w7 => et_yes) (fun i hi σ7 H7 w7 _ => by_ w7 (ev_d (ev_i0 (ev_i0 (ev_var (i := 13) w7 rfl) (ev_var (i := 8) w7 rfl) (fun _ => .int _)) ev_int (fun _ => .int _)) (by congr 1; omega)) (by omega))) (by
      rw [kept_all, lw, Int.toNat_natCast]
      unfold iL
      rw [List.map_map]
      rfl)) fun po σh Hh _ wh => ?_
    have wh' : ∃ c8, Wd K E.C_Trade [] [] H Hh σh [.z a (iL cells), .h p c, .d (.int (n : Nat)), .d (pairsD ps), .t n ps, .d (.list (Gr.map row)), .l pz (iL (Gr.map fun S => ((S.length : Nat) : Int))), .l pw (iL (wL n ps M)), c8, .l po (iL ((List.range M).map fun i => termL (scL n ps) (F - i - 1) m)), .d (.int (l : Nat)), .l pd (iL (foL n ps (l + 1))), .d (.int m), .d (.int (F : Nat)), .u, c15, .u] := ⟨_, wh⟩
    obtain ⟨c8', wh'⟩ := wh'
    have own_at : ∀ i : Nat, i < M → (iL ((List.range M).map fun i => termL (scL n ps) (F - i - 1) m))[i]? = some (.int (termL (scL n ps) (F - i - 1) m)) := fun i hi => by
      unfold iL
      rw [List.getElem?_map, List.getElem?_map, List.getElem?_range hi]
      rfl
    have own_wide : ∀ i : Nat, (termL (scL n ps) (F - i - 1) m).natAbs < 2 ^ 30 := fun i => by
      rw [termL_cn hok m1 (by omega)]
      have h1 := Int.emod_nonneg ((cnL n ps (F - i - 1) 0 : Nat) : Int) (show m ≠ 0 by omega)
      have h2 := Int.emod_lt_of_pos ((cnL n ps (F - i - 1) 0 : Nat) : Int) (show 0 < m by omega)
      omega
    refine s_when wh' (b := false) (et_cast (et_test (ev_neI (by_ wh' (ev_var (i := 13) wh' rfl) F30) (ev_iC (d := .int (((List.range M).map fun i => - cS (grL ps n) (i + 1) * termL (scL n ps) (F - i - 1) m).sum % m)) (ev_sumN (ns := (List.range M).map fun i => - cS (grL ps n) (i + 1) * termL (scL n ps) (F - i - 1) m) (en_cast (en_lcR (j := 8) (n := ((iL (wL n ps M)).length : Nat)) wh' (ea_cons (ev_lenL (ev_var (i := 7) wh' rfl)) ea_nil) (fun _ => true) (fun i => .int (- cS (grL ps n) (i + 1) * termL (scL n ps) (F - i - 1) m)) (by omega) (fun i hi σ7 H7 w7 => et_yes) (fun i hi σ7 H7 w7 _ => ev_iC (ev_ixL (d := .int (- cS (grL ps n) (i + 1))) (ev_var (i := 7) w7 rfl) (ev_var (i := 8) w7 rfl) (atI_nat (wL_at (by rw [lw] at hi; omega)))) (ev_ixL (d := .int (termL (scL n ps) (F - i - 1) m)) (ev_var (i := 9) w7 rfl) (ev_var (i := 8) w7 rfl) (atI_nat (own_at i (by rw [lw] at hi; omega)))) (wide_mul (by rw [Int.natAbs_neg]; exact cs_wide m6 ps _) (own_wide i) (by decide) (by decide) (by decide)) (fun _ => .int _))) (by
      rw [kept_all, lw, Int.toNat_natCast]
      unfold iL
      rw [List.map_map]
      rfl))) (ev_var (i := 12) wh' rfl) (by omega) (fun _ => .int _)))) (by rw [far_rule hok m1 hM far (by omega) F30]; simp)) (fun z => by cases z) (fun _ Hi wi => ?_)
    refine s_when wi (b := decide ((n : Int) = 1) || (decide ((n : Int) = 2) && !decide (ps = []))) (et_or (et_test (ev_eqI (ev_var (i := 2) wi rfl) ev_int)) (fun _ => et_and (et_test (ev_eqI (ev_var (i := 2) wi rfl) ev_int)) (fun _ => et_cast (et_test (ev_neD (x2 := pairsD []) (ev_var (i := 3) wi rfl) (ev_tup ed_nil (Nat.zero_le _)) (shaped_pairs ps) (shaped_pairs []))) (by rw [eqv_pairs])))) (fun y Hj wj => ?_) (fun y Hj wj => ?_)
    · have y' : n = 1 ∨ (n = 2 ∧ ps ≠ []) := by
        rw [Bool.or_eq_true, Bool.and_eq_true, decide_eq_true_eq, decide_eq_true_eq, Bool.not_eq_true', decide_eq_false_iff_not] at y
        rcases y with y | ⟨y, z⟩
        · exact .inl (by omega)
        · exact .inr ⟨by omega, z⟩
      refine s_ret wj (c := .d (.bool true)) (ev_d (ev_eqI (by_ wj (ev_var (i := 13) wj rfl) F30) (ev_iC (d := .int ((if n = 1 then 1 else (F : Int) + 1) % m)) (ev_if (c := .d (.int (if n = 1 then 1 else (F : Int) + 1))) (et_test (ev_eqI (ev_var (i := 2) wj rfl) ev_int)) (fun z => ev_d ev_int ?_) (fun z => ev_d (ev_addI (ev_var (i := 13) wj rfl) ev_int) ?_)) (ev_var (i := 12) wj rfl) (by omega) (fun _ => .int _))) ?_) fun v Hk wk ak => by
        rw [Td.bl_of ak]
        exact q Hk
      · have z := of_decide_eq_true z
        rw [if_pos (by omega)]
      · have z := of_decide_eq_false z
        rw [if_neg (by omega)]
      · rw [termL_cn hok m1 F30]
        rcases y' with e | ⟨e, e2⟩
        · subst e
          rw [cn_one hok, if_pos rfl]
          simp
        · subst e
          rw [cn_two hok (two_may hok e2), if_neg (by decide)]
          simp
    · refine s_ret wj (c := .d (.bool true)) ev_bl fun v Hk wk ak => by
        rw [Td.bl_of ak]
        exact q Hk
end
end K1
namespace K1
open PySem PySem.Spec PyProof.Rows L2 Pt
set_option maxHeartbeats 8000000 in
theorem all_mk {P : Program} {w : World} {K : PySem.W.Frag} {h : Heap} {mg : Str → Option Value} {fa : Addr} (X : K.In h) (G : h.Ns mainGlobals mg) (hfa : mg "law" = some (.ref fa))
    {fa_is_whole fa_is_letter fa_is_pair fa_check_pairs fa_Trade___init__ fa_Trade_letters pr_letters fa_Trade_pairs pr_pairs fa_Trade___eq__ fa_check_trade fa_may_change fa_bars_of fa_groups fa_all_groups fa_may_join fa_signed_counts fa_sign fa_how_many fa_how_many_by fa_term_by fa_change_signs fa_multiply fa_is_row fa_check_row fa_least fa_first_letters fa_without fa_least_of fa__law_mix fa__law_next fa__law_pairs fa__law_may fa__law_groups fa__law_is_group fa__law_every fa__law_row_of fa_law C_Trade : Addr}
    {od_is_whole an_is_whole od_is_letter an_is_letter od_is_pair an_is_pair od_check_pairs an_check_pairs od_Trade___init__ an_Trade___init__ od_Trade_letters an_Trade_letters od_Trade_pairs an_Trade_pairs od_Trade___eq__ an_Trade___eq__ od_check_trade an_check_trade od_may_change an_may_change od_bars_of an_bars_of od_groups an_groups od_all_groups an_all_groups od_may_join an_may_join od_signed_counts an_signed_counts od_sign an_sign od_how_many an_how_many od_how_many_by an_how_many_by od_term_by an_term_by od_change_signs an_change_signs od_multiply an_multiply od_is_row an_is_row od_check_row an_check_row od_least an_least od_first_letters an_first_letters od_without an_without od_least_of an_least_of od__law_mix an__law_mix od__law_next an__law_next od__law_pairs an__law_pairs od__law_may an__law_may od__law_groups an__law_groups od__law_is_group an__law_is_group od__law_every an__law_every od__law_row_of an__law_row_of od_law an_law : Option Addr}
    {sl_is_whole sl_is_letter sl_is_pair sl_check_pairs sl_Trade___init__ sl_Trade_letters sl_Trade_pairs sl_Trade___eq__ sl_check_trade sl_may_change sl_bars_of sl_groups sl_all_groups sl_may_join sl_signed_counts sl_sign sl_how_many sl_how_many_by sl_term_by sl_change_signs sl_multiply sl_is_row sl_check_row sl_least sl_first_letters sl_without sl_least_of sl__law_mix sl__law_next sl__law_pairs sl__law_may sl__law_groups sl__law_is_group sl__law_every sl__law_row_of sl_law : Array (Option Value)}
    {oc_is_whole kV_is_whole dc_is_whole pm_is_whole cd_is_whole ct_is_whole oc_is_letter kV_is_letter dc_is_letter pm_is_letter cd_is_letter ct_is_letter oc_is_pair kV_is_pair dc_is_pair pm_is_pair cd_is_pair ct_is_pair oc_check_pairs kV_check_pairs dc_check_pairs pm_check_pairs cd_check_pairs ct_check_pairs oc_Trade___init__ kV_Trade___init__ dc_Trade___init__ pm_Trade___init__ cd_Trade___init__ ct_Trade___init__ oc_Trade_letters kV_Trade_letters dc_Trade_letters pm_Trade_letters cd_Trade_letters ct_Trade_letters oc_Trade_pairs kV_Trade_pairs dc_Trade_pairs pm_Trade_pairs cd_Trade_pairs ct_Trade_pairs oc_Trade___eq__ kV_Trade___eq__ dc_Trade___eq__ pm_Trade___eq__ cd_Trade___eq__ ct_Trade___eq__ oc_check_trade kV_check_trade dc_check_trade pm_check_trade cd_check_trade ct_check_trade oc_may_change kV_may_change dc_may_change pm_may_change cd_may_change ct_may_change oc_bars_of kV_bars_of dc_bars_of pm_bars_of cd_bars_of ct_bars_of oc_groups kV_groups dc_groups pm_groups cd_groups ct_groups oc_all_groups kV_all_groups dc_all_groups pm_all_groups cd_all_groups ct_all_groups oc_may_join kV_may_join dc_may_join pm_may_join cd_may_join ct_may_join oc_signed_counts kV_signed_counts dc_signed_counts pm_signed_counts cd_signed_counts ct_signed_counts oc_sign kV_sign dc_sign pm_sign cd_sign ct_sign oc_how_many kV_how_many dc_how_many pm_how_many cd_how_many ct_how_many oc_how_many_by kV_how_many_by dc_how_many_by pm_how_many_by cd_how_many_by ct_how_many_by oc_term_by kV_term_by dc_term_by pm_term_by cd_term_by ct_term_by oc_change_signs kV_change_signs dc_change_signs pm_change_signs cd_change_signs ct_change_signs oc_multiply kV_multiply dc_multiply pm_multiply cd_multiply ct_multiply oc_is_row kV_is_row dc_is_row pm_is_row cd_is_row ct_is_row oc_check_row kV_check_row dc_check_row pm_check_row cd_check_row ct_check_row oc_least kV_least dc_least pm_least cd_least ct_least oc_first_letters kV_first_letters dc_first_letters pm_first_letters cd_first_letters ct_first_letters oc_without kV_without dc_without pm_without cd_without ct_without oc_least_of kV_least_of dc_least_of pm_least_of cd_least_of ct_least_of oc__law_mix kV__law_mix dc__law_mix pm__law_mix cd__law_mix ct__law_mix oc__law_next kV__law_next dc__law_next pm__law_next cd__law_next ct__law_next oc__law_pairs kV__law_pairs dc__law_pairs pm__law_pairs cd__law_pairs ct__law_pairs oc__law_may kV__law_may dc__law_may pm__law_may cd__law_may ct__law_may oc__law_groups kV__law_groups dc__law_groups pm__law_groups cd__law_groups ct__law_groups oc__law_is_group kV__law_is_group dc__law_is_group pm__law_is_group cd__law_is_group ct__law_is_group oc__law_every kV__law_every dc__law_every pm__law_every cd__law_every ct__law_every oc__law_row_of kV__law_row_of dc__law_row_of pm__law_row_of cd__law_row_of ct__law_row_of oc_law kV_law dc_law pm_law cd_law ct_law : Value}
    {rest_letters rest_pairs  : List Value} {tk_MOST_LETTERS tk_MOST_LENGTH tk_MOST_IN_ROW tk_MOST_LENGTH_BY tk_MOST_MODULUS : Tok}
    (aC : PySem.W.nsIn K mainGlobals "Trade" = some (some (.ref C_Trade)))
    (a_is_whole : PySem.W.nsIn K mainGlobals "is_whole" = some (some (.ref fa_is_whole)))
    (l_is_whole : K.lookup fa_is_whole = some ⟨oc_is_whole, od_is_whole, .func (PySem.W.fnOf "is_whole" "is_whole" (defArgs s_is_whole) (defBody s_is_whole) (defScope s_is_whole) .none kV_is_whole dc_is_whole pm_is_whole an_is_whole cd_is_whole ct_is_whole), sl_is_whole⟩)
    (c_is_whole : PySem.W.codeIn K cd_is_whole "is_whole" = true)
    (k_is_whole : PySem.W.keepIn K (.ref fa_is_whole) = true)
    (a_is_letter : PySem.W.nsIn K mainGlobals "is_letter" = some (some (.ref fa_is_letter)))
    (l_is_letter : K.lookup fa_is_letter = some ⟨oc_is_letter, od_is_letter, .func (PySem.W.fnOf "is_letter" "is_letter" (defArgs s_is_letter) (defBody s_is_letter) (defScope s_is_letter) .none kV_is_letter dc_is_letter pm_is_letter an_is_letter cd_is_letter ct_is_letter), sl_is_letter⟩)
    (c_is_letter : PySem.W.codeIn K cd_is_letter "is_letter" = true)
    (k_is_letter : PySem.W.keepIn K (.ref fa_is_letter) = true)
    (a_is_pair : PySem.W.nsIn K mainGlobals "is_pair" = some (some (.ref fa_is_pair)))
    (l_is_pair : K.lookup fa_is_pair = some ⟨oc_is_pair, od_is_pair, .func (PySem.W.fnOf "is_pair" "is_pair" (defArgs s_is_pair) (defBody s_is_pair) (defScope s_is_pair) .none kV_is_pair dc_is_pair pm_is_pair an_is_pair cd_is_pair ct_is_pair), sl_is_pair⟩)
    (c_is_pair : PySem.W.codeIn K cd_is_pair "is_pair" = true)
    (k_is_pair : PySem.W.keepIn K (.ref fa_is_pair) = true)
    (a_check_pairs : PySem.W.nsIn K mainGlobals "check_pairs" = some (some (.ref fa_check_pairs)))
    (l_check_pairs : K.lookup fa_check_pairs = some ⟨oc_check_pairs, od_check_pairs, .func (PySem.W.fnOf "check_pairs" "check_pairs" (defArgs s_check_pairs) (defBody s_check_pairs) (defScope s_check_pairs) .none kV_check_pairs dc_check_pairs pm_check_pairs an_check_pairs cd_check_pairs ct_check_pairs), sl_check_pairs⟩)
    (c_check_pairs : PySem.W.codeIn K cd_check_pairs "check_pairs" = true)
    (k_check_pairs : PySem.W.keepIn K (.ref fa_check_pairs) = true)
    (a_Trade___init__ : PySem.W.findIn K (.ref C_Trade) "__init__" = some (some (.ref fa_Trade___init__)))
    (i_Trade___init__ : PySem.W.isFn K (.ref fa_Trade___init__) = true)
    (l_Trade___init__ : K.lookup fa_Trade___init__ = some ⟨oc_Trade___init__, od_Trade___init__, .func (PySem.W.fnOf "__init__" "Trade.__init__" (defArgs s_Trade___init__) (defBody s_Trade___init__) (defScope s_Trade___init__) .none kV_Trade___init__ dc_Trade___init__ pm_Trade___init__ an_Trade___init__ cd_Trade___init__ ct_Trade___init__), sl_Trade___init__⟩)
    (c_Trade___init__ : PySem.W.codeIn K cd_Trade___init__ "Trade.__init__" = true)
    (k_Trade___init__ : PySem.W.keepIn K (.ref fa_Trade___init__) = true)
    (a_Trade_letters : PySem.W.findIn K (.ref C_Trade) "letters" = some (some (.ref pr_letters)))
    (g_Trade_letters : PySem.W.specialIn K (.ref pr_letters) "__get__" = some (some (.builtin "property.__get__")))
    (t_Trade_letters : PySem.W.takesIn K (.ref pr_letters) = some true)
    (r_Trade_letters : PySem.W.recIn K pr_letters "property" = some (.ref fa_Trade_letters :: rest_letters))
    (l_Trade_letters : K.lookup fa_Trade_letters = some ⟨oc_Trade_letters, od_Trade_letters, .func (PySem.W.fnOf "letters" "Trade.letters" (defArgs s_Trade_letters) (defBody s_Trade_letters) (defScope s_Trade_letters) .none kV_Trade_letters dc_Trade_letters pm_Trade_letters an_Trade_letters cd_Trade_letters ct_Trade_letters), sl_Trade_letters⟩)
    (c_Trade_letters : PySem.W.codeIn K cd_Trade_letters "Trade.letters" = true)
    (k_Trade_letters : PySem.W.keepIn K (.ref fa_Trade_letters) = true)
    (a_Trade_pairs : PySem.W.findIn K (.ref C_Trade) "pairs" = some (some (.ref pr_pairs)))
    (g_Trade_pairs : PySem.W.specialIn K (.ref pr_pairs) "__get__" = some (some (.builtin "property.__get__")))
    (t_Trade_pairs : PySem.W.takesIn K (.ref pr_pairs) = some true)
    (r_Trade_pairs : PySem.W.recIn K pr_pairs "property" = some (.ref fa_Trade_pairs :: rest_pairs))
    (l_Trade_pairs : K.lookup fa_Trade_pairs = some ⟨oc_Trade_pairs, od_Trade_pairs, .func (PySem.W.fnOf "pairs" "Trade.pairs" (defArgs s_Trade_pairs) (defBody s_Trade_pairs) (defScope s_Trade_pairs) .none kV_Trade_pairs dc_Trade_pairs pm_Trade_pairs an_Trade_pairs cd_Trade_pairs ct_Trade_pairs), sl_Trade_pairs⟩)
    (c_Trade_pairs : PySem.W.codeIn K cd_Trade_pairs "Trade.pairs" = true)
    (k_Trade_pairs : PySem.W.keepIn K (.ref fa_Trade_pairs) = true)
    (a_Trade___eq__ : PySem.W.findIn K (.ref C_Trade) "__eq__" = some (some (.ref fa_Trade___eq__)))
    (i_Trade___eq__ : PySem.W.isFn K (.ref fa_Trade___eq__) = true)
    (l_Trade___eq__ : K.lookup fa_Trade___eq__ = some ⟨oc_Trade___eq__, od_Trade___eq__, .func (PySem.W.fnOf "__eq__" "Trade.__eq__" (defArgs s_Trade___eq__) (defBody s_Trade___eq__) (defScope s_Trade___eq__) .none kV_Trade___eq__ dc_Trade___eq__ pm_Trade___eq__ an_Trade___eq__ cd_Trade___eq__ ct_Trade___eq__), sl_Trade___eq__⟩)
    (c_Trade___eq__ : PySem.W.codeIn K cd_Trade___eq__ "Trade.__eq__" = true)
    (k_Trade___eq__ : PySem.W.keepIn K (.ref fa_Trade___eq__) = true)
    (a_check_trade : PySem.W.nsIn K mainGlobals "check_trade" = some (some (.ref fa_check_trade)))
    (l_check_trade : K.lookup fa_check_trade = some ⟨oc_check_trade, od_check_trade, .func (PySem.W.fnOf "check_trade" "check_trade" (defArgs s_check_trade) (defBody s_check_trade) (defScope s_check_trade) .none kV_check_trade dc_check_trade pm_check_trade an_check_trade cd_check_trade ct_check_trade), sl_check_trade⟩)
    (c_check_trade : PySem.W.codeIn K cd_check_trade "check_trade" = true)
    (k_check_trade : PySem.W.keepIn K (.ref fa_check_trade) = true)
    (a_may_change : PySem.W.nsIn K mainGlobals "may_change" = some (some (.ref fa_may_change)))
    (l_may_change : K.lookup fa_may_change = some ⟨oc_may_change, od_may_change, .func (PySem.W.fnOf "may_change" "may_change" (defArgs s_may_change) (defBody s_may_change) (defScope s_may_change) .none kV_may_change dc_may_change pm_may_change an_may_change cd_may_change ct_may_change), sl_may_change⟩)
    (c_may_change : PySem.W.codeIn K cd_may_change "may_change" = true)
    (k_may_change : PySem.W.keepIn K (.ref fa_may_change) = true)
    (a_bars_of : PySem.W.nsIn K mainGlobals "bars_of" = some (some (.ref fa_bars_of)))
    (l_bars_of : K.lookup fa_bars_of = some ⟨oc_bars_of, od_bars_of, .func (PySem.W.fnOf "bars_of" "bars_of" (defArgs s_bars_of) (defBody s_bars_of) (defScope s_bars_of) .none kV_bars_of dc_bars_of pm_bars_of an_bars_of cd_bars_of ct_bars_of), sl_bars_of⟩)
    (c_bars_of : PySem.W.codeIn K cd_bars_of "bars_of" = true)
    (k_bars_of : PySem.W.keepIn K (.ref fa_bars_of) = true)
    (a_groups : PySem.W.nsIn K mainGlobals "groups" = some (some (.ref fa_groups)))
    (l_groups : K.lookup fa_groups = some ⟨oc_groups, od_groups, .func (PySem.W.fnOf "groups" "groups" (defArgs s_groups) (defBody s_groups) (defScope s_groups) .none kV_groups dc_groups pm_groups an_groups cd_groups ct_groups), sl_groups⟩)
    (c_groups : PySem.W.codeIn K cd_groups "groups" = true)
    (k_groups : PySem.W.keepIn K (.ref fa_groups) = true)
    (a_all_groups : PySem.W.nsIn K mainGlobals "all_groups" = some (some (.ref fa_all_groups)))
    (l_all_groups : K.lookup fa_all_groups = some ⟨oc_all_groups, od_all_groups, .func (PySem.W.fnOf "all_groups" "all_groups" (defArgs s_all_groups) (defBody s_all_groups) (defScope s_all_groups) .none kV_all_groups dc_all_groups pm_all_groups an_all_groups cd_all_groups ct_all_groups), sl_all_groups⟩)
    (c_all_groups : PySem.W.codeIn K cd_all_groups "all_groups" = true)
    (k_all_groups : PySem.W.keepIn K (.ref fa_all_groups) = true)
    (a_may_join : PySem.W.nsIn K mainGlobals "may_join" = some (some (.ref fa_may_join)))
    (l_may_join : K.lookup fa_may_join = some ⟨oc_may_join, od_may_join, .func (PySem.W.fnOf "may_join" "may_join" (defArgs s_may_join) (defBody s_may_join) (defScope s_may_join) .none kV_may_join dc_may_join pm_may_join an_may_join cd_may_join ct_may_join), sl_may_join⟩)
    (c_may_join : PySem.W.codeIn K cd_may_join "may_join" = true)
    (k_may_join : PySem.W.keepIn K (.ref fa_may_join) = true)
    (a_signed_counts : PySem.W.nsIn K mainGlobals "signed_counts" = some (some (.ref fa_signed_counts)))
    (l_signed_counts : K.lookup fa_signed_counts = some ⟨oc_signed_counts, od_signed_counts, .func (PySem.W.fnOf "signed_counts" "signed_counts" (defArgs s_signed_counts) (defBody s_signed_counts) (defScope s_signed_counts) .none kV_signed_counts dc_signed_counts pm_signed_counts an_signed_counts cd_signed_counts ct_signed_counts), sl_signed_counts⟩)
    (c_signed_counts : PySem.W.codeIn K cd_signed_counts "signed_counts" = true)
    (k_signed_counts : PySem.W.keepIn K (.ref fa_signed_counts) = true)
    (a_sign : PySem.W.nsIn K mainGlobals "sign" = some (some (.ref fa_sign)))
    (l_sign : K.lookup fa_sign = some ⟨oc_sign, od_sign, .func (PySem.W.fnOf "sign" "sign" (defArgs s_sign) (defBody s_sign) (defScope s_sign) .none kV_sign dc_sign pm_sign an_sign cd_sign ct_sign), sl_sign⟩)
    (c_sign : PySem.W.codeIn K cd_sign "sign" = true)
    (k_sign : PySem.W.keepIn K (.ref fa_sign) = true)
    (a_how_many : PySem.W.nsIn K mainGlobals "how_many" = some (some (.ref fa_how_many)))
    (l_how_many : K.lookup fa_how_many = some ⟨oc_how_many, od_how_many, .func (PySem.W.fnOf "how_many" "how_many" (defArgs s_how_many) (defBody s_how_many) (defScope s_how_many) .none kV_how_many dc_how_many pm_how_many an_how_many cd_how_many ct_how_many), sl_how_many⟩)
    (c_how_many : PySem.W.codeIn K cd_how_many "how_many" = true)
    (k_how_many : PySem.W.keepIn K (.ref fa_how_many) = true)
    (a_how_many_by : PySem.W.nsIn K mainGlobals "how_many_by" = some (some (.ref fa_how_many_by)))
    (l_how_many_by : K.lookup fa_how_many_by = some ⟨oc_how_many_by, od_how_many_by, .func (PySem.W.fnOf "how_many_by" "how_many_by" (defArgs s_how_many_by) (defBody s_how_many_by) (defScope s_how_many_by) .none kV_how_many_by dc_how_many_by pm_how_many_by an_how_many_by cd_how_many_by ct_how_many_by), sl_how_many_by⟩)
    (c_how_many_by : PySem.W.codeIn K cd_how_many_by "how_many_by" = true)
    (k_how_many_by : PySem.W.keepIn K (.ref fa_how_many_by) = true)
    (a_term_by : PySem.W.nsIn K mainGlobals "term_by" = some (some (.ref fa_term_by)))
    (l_term_by : K.lookup fa_term_by = some ⟨oc_term_by, od_term_by, .func (PySem.W.fnOf "term_by" "term_by" (defArgs s_term_by) (defBody s_term_by) (defScope s_term_by) .none kV_term_by dc_term_by pm_term_by an_term_by cd_term_by ct_term_by), sl_term_by⟩)
    (c_term_by : PySem.W.codeIn K cd_term_by "term_by" = true)
    (k_term_by : PySem.W.keepIn K (.ref fa_term_by) = true)
    (a_change_signs : PySem.W.nsIn K mainGlobals "change_signs" = some (some (.ref fa_change_signs)))
    (l_change_signs : K.lookup fa_change_signs = some ⟨oc_change_signs, od_change_signs, .func (PySem.W.fnOf "change_signs" "change_signs" (defArgs s_change_signs) (defBody s_change_signs) (defScope s_change_signs) .none kV_change_signs dc_change_signs pm_change_signs an_change_signs cd_change_signs ct_change_signs), sl_change_signs⟩)
    (c_change_signs : PySem.W.codeIn K cd_change_signs "change_signs" = true)
    (k_change_signs : PySem.W.keepIn K (.ref fa_change_signs) = true)
    (a_multiply : PySem.W.nsIn K mainGlobals "multiply" = some (some (.ref fa_multiply)))
    (l_multiply : K.lookup fa_multiply = some ⟨oc_multiply, od_multiply, .func (PySem.W.fnOf "multiply" "multiply" (defArgs s_multiply) (defBody s_multiply) (defScope s_multiply) .none kV_multiply dc_multiply pm_multiply an_multiply cd_multiply ct_multiply), sl_multiply⟩)
    (c_multiply : PySem.W.codeIn K cd_multiply "multiply" = true)
    (k_multiply : PySem.W.keepIn K (.ref fa_multiply) = true)
    (a_is_row : PySem.W.nsIn K mainGlobals "is_row" = some (some (.ref fa_is_row)))
    (l_is_row : K.lookup fa_is_row = some ⟨oc_is_row, od_is_row, .func (PySem.W.fnOf "is_row" "is_row" (defArgs s_is_row) (defBody s_is_row) (defScope s_is_row) .none kV_is_row dc_is_row pm_is_row an_is_row cd_is_row ct_is_row), sl_is_row⟩)
    (c_is_row : PySem.W.codeIn K cd_is_row "is_row" = true)
    (k_is_row : PySem.W.keepIn K (.ref fa_is_row) = true)
    (a_check_row : PySem.W.nsIn K mainGlobals "check_row" = some (some (.ref fa_check_row)))
    (l_check_row : K.lookup fa_check_row = some ⟨oc_check_row, od_check_row, .func (PySem.W.fnOf "check_row" "check_row" (defArgs s_check_row) (defBody s_check_row) (defScope s_check_row) .none kV_check_row dc_check_row pm_check_row an_check_row cd_check_row ct_check_row), sl_check_row⟩)
    (c_check_row : PySem.W.codeIn K cd_check_row "check_row" = true)
    (k_check_row : PySem.W.keepIn K (.ref fa_check_row) = true)
    (a_least : PySem.W.nsIn K mainGlobals "least" = some (some (.ref fa_least)))
    (l_least : K.lookup fa_least = some ⟨oc_least, od_least, .func (PySem.W.fnOf "least" "least" (defArgs s_least) (defBody s_least) (defScope s_least) .none kV_least dc_least pm_least an_least cd_least ct_least), sl_least⟩)
    (c_least : PySem.W.codeIn K cd_least "least" = true)
    (k_least : PySem.W.keepIn K (.ref fa_least) = true)
    (a_first_letters : PySem.W.nsIn K mainGlobals "first_letters" = some (some (.ref fa_first_letters)))
    (l_first_letters : K.lookup fa_first_letters = some ⟨oc_first_letters, od_first_letters, .func (PySem.W.fnOf "first_letters" "first_letters" (defArgs s_first_letters) (defBody s_first_letters) (defScope s_first_letters) .none kV_first_letters dc_first_letters pm_first_letters an_first_letters cd_first_letters ct_first_letters), sl_first_letters⟩)
    (c_first_letters : PySem.W.codeIn K cd_first_letters "first_letters" = true)
    (k_first_letters : PySem.W.keepIn K (.ref fa_first_letters) = true)
    (a_without : PySem.W.nsIn K mainGlobals "without" = some (some (.ref fa_without)))
    (l_without : K.lookup fa_without = some ⟨oc_without, od_without, .func (PySem.W.fnOf "without" "without" (defArgs s_without) (defBody s_without) (defScope s_without) .none kV_without dc_without pm_without an_without cd_without ct_without), sl_without⟩)
    (c_without : PySem.W.codeIn K cd_without "without" = true)
    (k_without : PySem.W.keepIn K (.ref fa_without) = true)
    (a_least_of : PySem.W.nsIn K mainGlobals "least_of" = some (some (.ref fa_least_of)))
    (l_least_of : K.lookup fa_least_of = some ⟨oc_least_of, od_least_of, .func (PySem.W.fnOf "least_of" "least_of" (defArgs s_least_of) (defBody s_least_of) (defScope s_least_of) .none kV_least_of dc_least_of pm_least_of an_least_of cd_least_of ct_least_of), sl_least_of⟩)
    (c_least_of : PySem.W.codeIn K cd_least_of "least_of" = true)
    (k_least_of : PySem.W.keepIn K (.ref fa_least_of) = true)
    (a__law_mix : PySem.W.nsIn K mainGlobals "_law_mix" = some (some (.ref fa__law_mix)))
    (l__law_mix : K.lookup fa__law_mix = some ⟨oc__law_mix, od__law_mix, .func (PySem.W.fnOf "_law_mix" "_law_mix" (defArgs s__law_mix) (defBody s__law_mix) (defScope s__law_mix) .none kV__law_mix dc__law_mix pm__law_mix an__law_mix cd__law_mix ct__law_mix), sl__law_mix⟩)
    (c__law_mix : PySem.W.codeIn K cd__law_mix "_law_mix" = true)
    (k__law_mix : PySem.W.keepIn K (.ref fa__law_mix) = true)
    (a__law_next : PySem.W.nsIn K mainGlobals "_law_next" = some (some (.ref fa__law_next)))
    (l__law_next : K.lookup fa__law_next = some ⟨oc__law_next, od__law_next, .func (PySem.W.fnOf "_law_next" "_law_next" (defArgs s__law_next) (defBody s__law_next) (defScope s__law_next) .none kV__law_next dc__law_next pm__law_next an__law_next cd__law_next ct__law_next), sl__law_next⟩)
    (c__law_next : PySem.W.codeIn K cd__law_next "_law_next" = true)
    (k__law_next : PySem.W.keepIn K (.ref fa__law_next) = true)
    (a__law_pairs : PySem.W.nsIn K mainGlobals "_law_pairs" = some (some (.ref fa__law_pairs)))
    (l__law_pairs : K.lookup fa__law_pairs = some ⟨oc__law_pairs, od__law_pairs, .func (PySem.W.fnOf "_law_pairs" "_law_pairs" (defArgs s__law_pairs) (defBody s__law_pairs) (defScope s__law_pairs) .none kV__law_pairs dc__law_pairs pm__law_pairs an__law_pairs cd__law_pairs ct__law_pairs), sl__law_pairs⟩)
    (c__law_pairs : PySem.W.codeIn K cd__law_pairs "_law_pairs" = true)
    (k__law_pairs : PySem.W.keepIn K (.ref fa__law_pairs) = true)
    (a__law_may : PySem.W.nsIn K mainGlobals "_law_may" = some (some (.ref fa__law_may)))
    (l__law_may : K.lookup fa__law_may = some ⟨oc__law_may, od__law_may, .func (PySem.W.fnOf "_law_may" "_law_may" (defArgs s__law_may) (defBody s__law_may) (defScope s__law_may) .none kV__law_may dc__law_may pm__law_may an__law_may cd__law_may ct__law_may), sl__law_may⟩)
    (c__law_may : PySem.W.codeIn K cd__law_may "_law_may" = true)
    (k__law_may : PySem.W.keepIn K (.ref fa__law_may) = true)
    (a__law_groups : PySem.W.nsIn K mainGlobals "_law_groups" = some (some (.ref fa__law_groups)))
    (l__law_groups : K.lookup fa__law_groups = some ⟨oc__law_groups, od__law_groups, .func (PySem.W.fnOf "_law_groups" "_law_groups" (defArgs s__law_groups) (defBody s__law_groups) (defScope s__law_groups) .none kV__law_groups dc__law_groups pm__law_groups an__law_groups cd__law_groups ct__law_groups), sl__law_groups⟩)
    (c__law_groups : PySem.W.codeIn K cd__law_groups "_law_groups" = true)
    (k__law_groups : PySem.W.keepIn K (.ref fa__law_groups) = true)
    (a__law_is_group : PySem.W.nsIn K mainGlobals "_law_is_group" = some (some (.ref fa__law_is_group)))
    (l__law_is_group : K.lookup fa__law_is_group = some ⟨oc__law_is_group, od__law_is_group, .func (PySem.W.fnOf "_law_is_group" "_law_is_group" (defArgs s__law_is_group) (defBody s__law_is_group) (defScope s__law_is_group) .none kV__law_is_group dc__law_is_group pm__law_is_group an__law_is_group cd__law_is_group ct__law_is_group), sl__law_is_group⟩)
    (c__law_is_group : PySem.W.codeIn K cd__law_is_group "_law_is_group" = true)
    (k__law_is_group : PySem.W.keepIn K (.ref fa__law_is_group) = true)
    (a__law_every : PySem.W.nsIn K mainGlobals "_law_every" = some (some (.ref fa__law_every)))
    (l__law_every : K.lookup fa__law_every = some ⟨oc__law_every, od__law_every, .func (PySem.W.fnOf "_law_every" "_law_every" (defArgs s__law_every) (defBody s__law_every) (defScope s__law_every) .none kV__law_every dc__law_every pm__law_every an__law_every cd__law_every ct__law_every), sl__law_every⟩)
    (c__law_every : PySem.W.codeIn K cd__law_every "_law_every" = true)
    (k__law_every : PySem.W.keepIn K (.ref fa__law_every) = true)
    (a__law_row_of : PySem.W.nsIn K mainGlobals "_law_row_of" = some (some (.ref fa__law_row_of)))
    (l__law_row_of : K.lookup fa__law_row_of = some ⟨oc__law_row_of, od__law_row_of, .func (PySem.W.fnOf "_law_row_of" "_law_row_of" (defArgs s__law_row_of) (defBody s__law_row_of) (defScope s__law_row_of) .none kV__law_row_of dc__law_row_of pm__law_row_of an__law_row_of cd__law_row_of ct__law_row_of), sl__law_row_of⟩)
    (c__law_row_of : PySem.W.codeIn K cd__law_row_of "_law_row_of" = true)
    (k__law_row_of : PySem.W.keepIn K (.ref fa__law_row_of) = true)
    (a_law : PySem.W.nsIn K mainGlobals "law" = some (some (.ref fa_law)))
    (l_law : K.lookup fa_law = some ⟨oc_law, od_law, .func (PySem.W.fnOf "law" "law" (defArgs s_law) (defBody s_law) (defScope s_law) .none kV_law dc_law pm_law an_law cd_law ct_law), sl_law⟩)
    (c_law : PySem.W.codeIn K cd_law "law" = true)
    (k_law : PySem.W.keepIn K (.ref fa_law) = true)
    (z_all : PySem.W.nsIn K mainGlobals "all" = some none)
    (z_bool : PySem.W.nsIn K mainGlobals "bool" = some none)
    (z_enumerate : PySem.W.nsIn K mainGlobals "enumerate" = some none)
    (z_int : PySem.W.nsIn K mainGlobals "int" = some none)
    (z_isinstance : PySem.W.nsIn K mainGlobals "isinstance" = some none)
    (z_len : PySem.W.nsIn K mainGlobals "len" = some none)
    (z_list : PySem.W.nsIn K mainGlobals "list" = some none)
    (z_max : PySem.W.nsIn K mainGlobals "max" = some none)
    (z_min : PySem.W.nsIn K mainGlobals "min" = some none)
    (z_range : PySem.W.nsIn K mainGlobals "range" = some none)
    (z_set : PySem.W.nsIn K mainGlobals "set" = some none)
    (z_sorted : PySem.W.nsIn K mainGlobals "sorted" = some none)
    (z_sum : PySem.W.nsIn K mainGlobals "sum" = some none)
    (z_tuple : PySem.W.nsIn K mainGlobals "tuple" = some none)
    (v_MOST_LETTERS : PySem.W.nsIn K mainGlobals "MOST_LETTERS" = some (some (.int 6 tk_MOST_LETTERS)))
    (v_MOST_LENGTH : PySem.W.nsIn K mainGlobals "MOST_LENGTH" = some (some (.int 500 tk_MOST_LENGTH)))
    (v_MOST_IN_ROW : PySem.W.nsIn K mainGlobals "MOST_IN_ROW" = some (some (.int 20 tk_MOST_IN_ROW)))
    (v_MOST_LENGTH_BY : PySem.W.nsIn K mainGlobals "MOST_LENGTH_BY" = some (some (.int 1000000000000000000000000000000 tk_MOST_LENGTH_BY)))
    (v_MOST_MODULUS : PySem.W.nsIn K mainGlobals "MOST_MODULUS" = some (some (.int 1000000000 tk_MOST_MODULUS)))
    (pg : PySem.W.plainGet K C_Trade Str.empty = true)
    (hd : PySem.W.hasDictIn K C_Trade = true)
    (po : PySem.W.plainOver K C_Trade = true)
    (sa : PySem.W.findIn K (.ref C_Trade) "__setattr__" = some (some (.builtin "object.__setattr__")))
    (mk : PySem.W.makesIn K C_Trade = true)
    (kc : PySem.W.keepIn K (.ref C_Trade) = true)
    (nl : PySem.W.findIn K (.ref C_Trade) "_letters" = some none)
    (np : PySem.W.findIn K (.ref C_Trade) "_pairs" = some none)
    (ha : PySem.W.findIn K (.ref C_Trade) "__class__" = some (some (.builtin "object.__class__")))
    (hn : PySem.W.specialIn K (.builtin "object.__class__") "__get__" = some (some (.builtin "getset_descriptor.__get__")))
    (htk : PySem.W.takesIn K (.builtin "object.__class__") = some true)
    (hm : PySem.W.mroIn K C_Trade (.type "object") = some true)
    (me : PySem.W.kitOne K (.ref C_Trade) (.ref C_Trade) = some true)
    (nt : PySem.W.kitOne K (.type "tuple") (.ref C_Trade) = some false)
    (nf : PySem.W.notFirst K C_Trade (.type "tuple") = true)
    : ∃ fd : FuncData, (∀ (s : Shared) (v : Value), BindsTo s fd ⟨[v], []⟩ [("_law_script", v)]) ∧ ∀ base : Heap, K.In base → base.Ns mainGlobals mg → FnOk P w K mg base CX0 90 fa fd ["_law_script"] (spLaw K) := by
  have e := hfa.symm.trans (PySem.W.mg_of X G a_law)
  obtain rfl : fa_law = fa := by
    cases e
    rfl
  have F_is_whole := fun_mk (st := s_is_whole) l_is_whole c_is_whole k_is_whole
  have b_is_whole := F_is_whole.binds (ps := ["value", "low", "high"]) fun _ _ _ _ _ _ us hl => match us, hl with | [_, _, _], _ => rfl
  have F_is_letter := fun_mk (st := s_is_letter) l_is_letter c_is_letter k_is_letter
  have b_is_letter := F_is_letter.binds (ps := ["letters", "value"]) fun _ _ _ _ _ _ us hl => match us, hl with | [_, _], _ => rfl
  have F_is_pair := fun_mk (st := s_is_pair) l_is_pair c_is_pair k_is_pair
  have b_is_pair := F_is_pair.binds (ps := ["letters", "value"]) fun _ _ _ _ _ _ us hl => match us, hl with | [_, _], _ => rfl
  have F_check_pairs := fun_mk (st := s_check_pairs) l_check_pairs c_check_pairs k_check_pairs
  have b_check_pairs := F_check_pairs.binds (ps := ["letters", "pairs"]) fun _ _ _ _ _ _ us hl => match us, hl with | [_, _], _ => rfl
  have F_Trade___init__ := fun_mk (st := s_Trade___init__) l_Trade___init__ c_Trade___init__ k_Trade___init__
  have b_Trade___init__ := F_Trade___init__.binds (ps := ["self", "letters", "pairs"]) fun _ _ _ _ _ _ us hl => match us, hl with | [_, _, _], _ => rfl
  have F_Trade_letters := fun_mk (st := s_Trade_letters) l_Trade_letters c_Trade_letters k_Trade_letters
  have b_Trade_letters := F_Trade_letters.binds (ps := ["self"]) fun _ _ _ _ _ _ us hl => match us, hl with | [_], _ => rfl
  have F_Trade_pairs := fun_mk (st := s_Trade_pairs) l_Trade_pairs c_Trade_pairs k_Trade_pairs
  have b_Trade_pairs := F_Trade_pairs.binds (ps := ["self"]) fun _ _ _ _ _ _ us hl => match us, hl with | [_], _ => rfl
  have F_Trade___eq__ := fun_mk (st := s_Trade___eq__) l_Trade___eq__ c_Trade___eq__ k_Trade___eq__
  have b_Trade___eq__ := F_Trade___eq__.binds (ps := ["self", "other"]) fun _ _ _ _ _ _ us hl => match us, hl with | [_, _], _ => rfl
  have F_check_trade := fun_mk (st := s_check_trade) l_check_trade c_check_trade k_check_trade
  have b_check_trade := F_check_trade.binds (ps := ["trade"]) fun _ _ _ _ _ _ us hl => match us, hl with | [_], _ => rfl
  have F_may_change := fun_mk (st := s_may_change) l_may_change c_may_change k_may_change
  have b_may_change := F_may_change.binds (ps := ["trade", "one", "other"]) fun _ _ _ _ _ _ us hl => match us, hl with | [_, _, _], _ => rfl
  have F_bars_of := fun_mk (st := s_bars_of) l_bars_of c_bars_of k_bars_of
  have b_bars_of := F_bars_of.binds (ps := ["trade"]) fun _ _ _ _ _ _ us hl => match us, hl with | [_], _ => rfl
  have F_groups := fun_mk (st := s_groups) l_groups c_groups k_groups
  have b_groups := F_groups.binds (ps := ["trade"]) fun _ _ _ _ _ _ us hl => match us, hl with | [_], _ => rfl
  have F_all_groups := fun_mk (st := s_all_groups) l_all_groups c_all_groups k_all_groups
  have b_all_groups := F_all_groups.binds (ps := ["trade"]) fun _ _ _ _ _ _ us hl => match us, hl with | [_], _ => rfl
  have F_may_join := fun_mk (st := s_may_join) l_may_join c_may_join k_may_join
  have b_may_join := F_may_join.binds (ps := ["trade", "group", "letter"]) fun _ _ _ _ _ _ us hl => match us, hl with | [_, _, _], _ => rfl
  have F_signed_counts := fun_mk (st := s_signed_counts) l_signed_counts c_signed_counts k_signed_counts
  have b_signed_counts := F_signed_counts.binds (ps := ["trade"]) fun _ _ _ _ _ _ us hl => match us, hl with | [_], _ => rfl
  have F_sign := fun_mk (st := s_sign) l_sign c_sign k_sign
  have b_sign := F_sign.binds (ps := ["number"]) fun _ _ _ _ _ _ us hl => match us, hl with | [_], _ => rfl
  have F_how_many := fun_mk (st := s_how_many) l_how_many c_how_many k_how_many
  have b_how_many := F_how_many.binds (ps := ["trade", "length"]) fun _ _ _ _ _ _ us hl => match us, hl with | [_, _], _ => rfl
  have F_how_many_by := fun_mk (st := s_how_many_by) l_how_many_by c_how_many_by k_how_many_by
  have b_how_many_by := F_how_many_by.binds (ps := ["trade", "length", "modulus"]) fun _ _ _ _ _ _ us hl => match us, hl with | [_, _, _], _ => rfl
  have F_term_by := fun_mk (st := s_term_by) l_term_by c_term_by k_term_by
  have b_term_by := F_term_by.binds (ps := ["counts", "length", "modulus"]) fun _ _ _ _ _ _ us hl => match us, hl with | [_, _, _], _ => rfl
  have F_change_signs := fun_mk (st := s_change_signs) l_change_signs c_change_signs k_change_signs
  have b_change_signs := F_change_signs.binds (ps := ["terms"]) fun _ _ _ _ _ _ us hl => match us, hl with | [_], _ => rfl
  have F_multiply := fun_mk (st := s_multiply) l_multiply c_multiply k_multiply
  have b_multiply := F_multiply.binds (ps := ["one", "other", "modulus"]) fun _ _ _ _ _ _ us hl => match us, hl with | [_, _, _], _ => rfl
  have F_is_row := fun_mk (st := s_is_row) l_is_row c_is_row k_is_row
  have b_is_row := F_is_row.binds (ps := ["letters", "value"]) fun _ _ _ _ _ _ us hl => match us, hl with | [_, _], _ => rfl
  have F_check_row := fun_mk (st := s_check_row) l_check_row c_check_row k_check_row
  have b_check_row := F_check_row.binds (ps := ["trade", "row"]) fun _ _ _ _ _ _ us hl => match us, hl with | [_, _], _ => rfl
  have F_least := fun_mk (st := s_least) l_least c_least k_least
  have b_least := F_least.binds (ps := ["trade", "row"]) fun _ _ _ _ _ _ us hl => match us, hl with | [_, _], _ => rfl
  have F_first_letters := fun_mk (st := s_first_letters) l_first_letters c_first_letters k_first_letters
  have b_first_letters := F_first_letters.binds (ps := ["bars", "row"]) fun _ _ _ _ _ _ us hl => match us, hl with | [_, _], _ => rfl
  have F_without := fun_mk (st := s_without) l_without c_without k_without
  have b_without := F_without.binds (ps := ["row", "place"]) fun _ _ _ _ _ _ us hl => match us, hl with | [_, _], _ => rfl
  have F_least_of := fun_mk (st := s_least_of) l_least_of c_least_of k_least_of
  have b_least_of := F_least_of.binds (ps := ["bars", "row"]) fun _ _ _ _ _ _ us hl => match us, hl with | [_, _], _ => rfl
  have F__law_mix := fun_mk (st := s__law_mix) l__law_mix c__law_mix k__law_mix
  have b__law_mix := F__law_mix.binds (ps := ["_law_script", "_law_seed"]) fun _ _ _ _ _ _ us hl => match us, hl with | [_, _], _ => rfl
  have F__law_next := fun_mk (st := s__law_next) l__law_next c__law_next k__law_next
  have b__law_next := F__law_next.binds (ps := ["_law_h", "_law_bound"]) fun _ _ _ _ _ _ us hl => match us, hl with | [_, _], _ => rfl
  have F__law_pairs := fun_mk (st := s__law_pairs) l__law_pairs c__law_pairs k__law_pairs
  have b__law_pairs := F__law_pairs.binds (ps := ["_law_h", "_law_letters"]) fun _ _ _ _ _ _ us hl => match us, hl with | [_, _], _ => rfl
  have F__law_may := fun_mk (st := s__law_may) l__law_may c__law_may k__law_may
  have b__law_may := F__law_may.binds (ps := ["_law_pairs_here", "_law_a", "_law_b"]) fun _ _ _ _ _ _ us hl => match us, hl with | [_, _, _], _ => rfl
  have F__law_groups := fun_mk (st := s__law_groups) l__law_groups c__law_groups k__law_groups
  have b__law_groups := F__law_groups.binds (ps := ["_law_letters", "_law_pairs_here"]) fun _ _ _ _ _ _ us hl => match us, hl with | [_, _], _ => rfl
  have F__law_is_group := fun_mk (st := s__law_is_group) l__law_is_group c__law_is_group k__law_is_group
  have b__law_is_group := F__law_is_group.binds (ps := ["_law_pairs_here", "_law_some"]) fun _ _ _ _ _ _ us hl => match us, hl with | [_, _], _ => rfl
  have F__law_every := fun_mk (st := s__law_every) l__law_every c__law_every k__law_every
  have b__law_every := F__law_every.binds (ps := ["_law_letters", "_law_length"]) fun _ _ _ _ _ _ us hl => match us, hl with | [_, _], _ => rfl
  have F__law_row_of := fun_mk (st := s__law_row_of) l__law_row_of c__law_row_of k__law_row_of
  have b__law_row_of := F__law_row_of.binds (ps := ["_law_weights", "_law_length"]) fun _ _ _ _ _ _ us hl => match us, hl with | [_, _], _ => rfl
  have F_law := fun_mk (st := s_law) l_law c_law k_law
  have b_law := F_law.binds (ps := ["_law_script"]) fun _ _ _ _ _ _ us hl => match us, hl with | [_], _ => rfl
  let E : Nv K mg := {
    a_is_whole := fa_is_whole
    d_is_whole := _
    F_is_whole := F_is_whole
    b_is_whole := b_is_whole
    m_is_whole := PySem.W.mg_of X G a_is_whole
    a_is_letter := fa_is_letter
    d_is_letter := _
    F_is_letter := F_is_letter
    b_is_letter := b_is_letter
    m_is_letter := PySem.W.mg_of X G a_is_letter
    a_is_pair := fa_is_pair
    d_is_pair := _
    F_is_pair := F_is_pair
    b_is_pair := b_is_pair
    m_is_pair := PySem.W.mg_of X G a_is_pair
    a_check_pairs := fa_check_pairs
    d_check_pairs := _
    F_check_pairs := F_check_pairs
    b_check_pairs := b_check_pairs
    m_check_pairs := PySem.W.mg_of X G a_check_pairs
    a_Trade___init__ := fa_Trade___init__
    d_Trade___init__ := _
    F_Trade___init__ := F_Trade___init__
    b_Trade___init__ := b_Trade___init__
    a_Trade_letters := fa_Trade_letters
    d_Trade_letters := _
    F_Trade_letters := F_Trade_letters
    b_Trade_letters := b_Trade_letters
    a_Trade_pairs := fa_Trade_pairs
    d_Trade_pairs := _
    F_Trade_pairs := F_Trade_pairs
    b_Trade_pairs := b_Trade_pairs
    a_Trade___eq__ := fa_Trade___eq__
    d_Trade___eq__ := _
    F_Trade___eq__ := F_Trade___eq__
    b_Trade___eq__ := b_Trade___eq__
    a_check_trade := fa_check_trade
    d_check_trade := _
    F_check_trade := F_check_trade
    b_check_trade := b_check_trade
    m_check_trade := PySem.W.mg_of X G a_check_trade
    a_may_change := fa_may_change
    d_may_change := _
    F_may_change := F_may_change
    b_may_change := b_may_change
    m_may_change := PySem.W.mg_of X G a_may_change
    a_bars_of := fa_bars_of
    d_bars_of := _
    F_bars_of := F_bars_of
    b_bars_of := b_bars_of
    m_bars_of := PySem.W.mg_of X G a_bars_of
    a_groups := fa_groups
    d_groups := _
    F_groups := F_groups
    b_groups := b_groups
    m_groups := PySem.W.mg_of X G a_groups
    a_all_groups := fa_all_groups
    d_all_groups := _
    F_all_groups := F_all_groups
    b_all_groups := b_all_groups
    m_all_groups := PySem.W.mg_of X G a_all_groups
    a_may_join := fa_may_join
    d_may_join := _
    F_may_join := F_may_join
    b_may_join := b_may_join
    m_may_join := PySem.W.mg_of X G a_may_join
    a_signed_counts := fa_signed_counts
    d_signed_counts := _
    F_signed_counts := F_signed_counts
    b_signed_counts := b_signed_counts
    m_signed_counts := PySem.W.mg_of X G a_signed_counts
    a_sign := fa_sign
    d_sign := _
    F_sign := F_sign
    b_sign := b_sign
    m_sign := PySem.W.mg_of X G a_sign
    a_how_many := fa_how_many
    d_how_many := _
    F_how_many := F_how_many
    b_how_many := b_how_many
    m_how_many := PySem.W.mg_of X G a_how_many
    a_how_many_by := fa_how_many_by
    d_how_many_by := _
    F_how_many_by := F_how_many_by
    b_how_many_by := b_how_many_by
    m_how_many_by := PySem.W.mg_of X G a_how_many_by
    a_term_by := fa_term_by
    d_term_by := _
    F_term_by := F_term_by
    b_term_by := b_term_by
    m_term_by := PySem.W.mg_of X G a_term_by
    a_change_signs := fa_change_signs
    d_change_signs := _
    F_change_signs := F_change_signs
    b_change_signs := b_change_signs
    m_change_signs := PySem.W.mg_of X G a_change_signs
    a_multiply := fa_multiply
    d_multiply := _
    F_multiply := F_multiply
    b_multiply := b_multiply
    m_multiply := PySem.W.mg_of X G a_multiply
    a_is_row := fa_is_row
    d_is_row := _
    F_is_row := F_is_row
    b_is_row := b_is_row
    m_is_row := PySem.W.mg_of X G a_is_row
    a_check_row := fa_check_row
    d_check_row := _
    F_check_row := F_check_row
    b_check_row := b_check_row
    m_check_row := PySem.W.mg_of X G a_check_row
    a_least := fa_least
    d_least := _
    F_least := F_least
    b_least := b_least
    m_least := PySem.W.mg_of X G a_least
    a_first_letters := fa_first_letters
    d_first_letters := _
    F_first_letters := F_first_letters
    b_first_letters := b_first_letters
    m_first_letters := PySem.W.mg_of X G a_first_letters
    a_without := fa_without
    d_without := _
    F_without := F_without
    b_without := b_without
    m_without := PySem.W.mg_of X G a_without
    a_least_of := fa_least_of
    d_least_of := _
    F_least_of := F_least_of
    b_least_of := b_least_of
    m_least_of := PySem.W.mg_of X G a_least_of
    a__law_mix := fa__law_mix
    d__law_mix := _
    F__law_mix := F__law_mix
    b__law_mix := b__law_mix
    m__law_mix := PySem.W.mg_of X G a__law_mix
    a__law_next := fa__law_next
    d__law_next := _
    F__law_next := F__law_next
    b__law_next := b__law_next
    m__law_next := PySem.W.mg_of X G a__law_next
    a__law_pairs := fa__law_pairs
    d__law_pairs := _
    F__law_pairs := F__law_pairs
    b__law_pairs := b__law_pairs
    m__law_pairs := PySem.W.mg_of X G a__law_pairs
    a__law_may := fa__law_may
    d__law_may := _
    F__law_may := F__law_may
    b__law_may := b__law_may
    m__law_may := PySem.W.mg_of X G a__law_may
    a__law_groups := fa__law_groups
    d__law_groups := _
    F__law_groups := F__law_groups
    b__law_groups := b__law_groups
    m__law_groups := PySem.W.mg_of X G a__law_groups
    a__law_is_group := fa__law_is_group
    d__law_is_group := _
    F__law_is_group := F__law_is_group
    b__law_is_group := b__law_is_group
    m__law_is_group := PySem.W.mg_of X G a__law_is_group
    a__law_every := fa__law_every
    d__law_every := _
    F__law_every := F__law_every
    b__law_every := b__law_every
    m__law_every := PySem.W.mg_of X G a__law_every
    a__law_row_of := fa__law_row_of
    d__law_row_of := _
    F__law_row_of := F__law_row_of
    b__law_row_of := b__law_row_of
    m__law_row_of := PySem.W.mg_of X G a__law_row_of
    a_law := fa_law
    d_law := _
    F_law := F_law
    b_law := b_law
    m_law := PySem.W.mg_of X G a_law
    C_Trade := C_Trade
    m_Trade := PySem.W.mg_of X G aC
    n_all := PySem.W.mg_none_of X G z_all
    n_bool := PySem.W.mg_none_of X G z_bool
    n_enumerate := PySem.W.mg_none_of X G z_enumerate
    n_int := PySem.W.mg_none_of X G z_int
    n_isinstance := PySem.W.mg_none_of X G z_isinstance
    n_len := PySem.W.mg_none_of X G z_len
    n_list := PySem.W.mg_none_of X G z_list
    n_max := PySem.W.mg_none_of X G z_max
    n_min := PySem.W.mg_none_of X G z_min
    n_range := PySem.W.mg_none_of X G z_range
    n_set := PySem.W.mg_none_of X G z_set
    n_sorted := PySem.W.mg_none_of X G z_sorted
    n_sum := PySem.W.mg_none_of X G z_sum
    n_tuple := PySem.W.mg_none_of X G z_tuple
    t_MOST_LETTERS := tk_MOST_LETTERS
    c_MOST_LETTERS := PySem.W.mg_of X G v_MOST_LETTERS
    t_MOST_LENGTH := tk_MOST_LENGTH
    c_MOST_LENGTH := PySem.W.mg_of X G v_MOST_LENGTH
    t_MOST_IN_ROW := tk_MOST_IN_ROW
    c_MOST_IN_ROW := PySem.W.mg_of X G v_MOST_IN_ROW
    t_MOST_LENGTH_BY := tk_MOST_LENGTH_BY
    c_MOST_LENGTH_BY := PySem.W.mg_of X G v_MOST_LENGTH_BY
    t_MOST_MODULUS := tk_MOST_MODULUS
    c_MOST_MODULUS := PySem.W.mg_of X G v_MOST_MODULUS
    cl := ⟨pg, hd, po, sa⟩
    nl := nl
    np := np
    mk_Trade := ⟨mk, a_Trade___init__, i_Trade___init__, kc⟩
    pr_l := pr_letters
    pr_p := pr_pairs
    p_letters := ⟨a_Trade_letters, g_Trade_letters, t_Trade_letters, ⟨_, r_Trade_letters⟩⟩
    p_pairs := ⟨a_Trade_pairs, g_Trade_pairs, t_Trade_pairs, ⟨_, r_Trade_pairs⟩⟩
    ic := ⟨⟨⟨pg, hd, po, sa⟩, ha, hn, htk, hm, me⟩, nt⟩
    eqf := a_Trade___eq__
    eqi := i_Trade___eq__
    nf := nf }
  exact ⟨PySem.W.fnOf "law" "law" (defArgs s_law) (defBody s_law) (defScope s_law) .none kV_law dc_law pm_law an_law cd_law ct_law, fun s v => .of_eq rfl, fun base _ _ => ok_law E⟩
theorem fz_of {K : PySem.W.Frag} {H : Hp} {a : Addr} {xs : List V} (hO : Only H) (hS : SqL K H a xs) : Fz K H a xs := by
  rcases hS with hS | hS
  · rcases hS with hS | ⟨o, hS⟩
    · rcases hO a with z | ⟨o, ys, z⟩ <;> rw [hS] at z <;> cases z
    · exact .inl ⟨o, hS⟩
  · exact .inr hS
theorem walk {l : PySem.W.OpenLaw} {q : Program} {loose : List Str} {XP : (Str → Option Value) → Heap → Prop} {YP : World → Heap → Prop} {d : DefRec} {K : Params → PySem.W.Frag} (hn : l.most = some 63) (hdf : d.params.defaults = [])
    (hY : ∀ (w : World) (h : Heap), YP w h → (K w.params).In h)
    (F : ∀ (w : World) (mg : Str → Option Value) (fa : Addr) (h : Heap), (K w.params).In h → h.Ns mainGlobals mg → mg d.name = some (.ref fa) →
      ∃ fd : FuncData, (∀ (s : Shared) (u : Value), BindsTo s fd ⟨[u], []⟩ [("_law_script", u)]) ∧ ∀ base : Heap, (K w.params).In base → base.Ns mainGlobals mg → FnOk l.prog w (K w.params) mg base CX0 90 fa fd ["_law_script"] (spLaw (K w.params))) :
    PySem.W.WalkO q loose XP YP l.row.toRowW d [] (fun f vs => PySem.call f vs) :=
  L2.walk_of (n := 63) (k := 90) (x := "_law_script") (CX := fun _ => CX0) (sp := fun w => spLaw (K w.params)) hn (by decide) hdf ⟨rfl, by decide, by decide⟩ hY F
    (fun w H a ns hl hO hS => ⟨a, ns, rfl, fz_of hO hS, hl, fun _ => rfl⟩) fun _ _ _ _ _ z => z
end K1
open PySem PySem.W PyProof.Rows
set_option maxRecDepth 100000 in
set_option maxHeartbeats 0 in
theorem PySem.Challenge.cw_placetrade_k05_whole_counts_of_rows_holds : PySem.Challenge.rw_placetrade_k05_whole_counts_of_rows.Holds := by
  w_on; o_law; k_head; (case hw => w_witness2)
  k_fill
  refine K1.walk (l := PySem.Challenge.rw_placetrade_k05_whole_counts_of_rows) rfl rfl (fun w h Y => PySem.W.kIn_of Y) ?F
  case F =>
    intro w mg fa h KX G hmg
    refine' K1.all_mk KX G hmg ?aC ?a_is_whole ?l_is_whole ?c_is_whole ?k_is_whole ?a_is_letter ?l_is_letter ?c_is_letter ?k_is_letter ?a_is_pair ?l_is_pair ?c_is_pair ?k_is_pair ?a_check_pairs ?l_check_pairs ?c_check_pairs ?k_check_pairs ?a_Trade___init__ ?i_Trade___init__ ?l_Trade___init__ ?c_Trade___init__ ?k_Trade___init__ ?a_Trade_letters ?g_Trade_letters ?t_Trade_letters ?r_Trade_letters ?l_Trade_letters ?c_Trade_letters ?k_Trade_letters ?a_Trade_pairs ?g_Trade_pairs ?t_Trade_pairs ?r_Trade_pairs ?l_Trade_pairs ?c_Trade_pairs ?k_Trade_pairs ?a_Trade___eq__ ?i_Trade___eq__ ?l_Trade___eq__ ?c_Trade___eq__ ?k_Trade___eq__ ?a_check_trade ?l_check_trade ?c_check_trade ?k_check_trade ?a_may_change ?l_may_change ?c_may_change ?k_may_change ?a_bars_of ?l_bars_of ?c_bars_of ?k_bars_of ?a_groups ?l_groups ?c_groups ?k_groups ?a_all_groups ?l_all_groups ?c_all_groups ?k_all_groups ?a_may_join ?l_may_join ?c_may_join ?k_may_join ?a_signed_counts ?l_signed_counts ?c_signed_counts ?k_signed_counts ?a_sign ?l_sign ?c_sign ?k_sign ?a_how_many ?l_how_many ?c_how_many ?k_how_many ?a_how_many_by ?l_how_many_by ?c_how_many_by ?k_how_many_by ?a_term_by ?l_term_by ?c_term_by ?k_term_by ?a_change_signs ?l_change_signs ?c_change_signs ?k_change_signs ?a_multiply ?l_multiply ?c_multiply ?k_multiply ?a_is_row ?l_is_row ?c_is_row ?k_is_row ?a_check_row ?l_check_row ?c_check_row ?k_check_row ?a_least ?l_least ?c_least ?k_least ?a_first_letters ?l_first_letters ?c_first_letters ?k_first_letters ?a_without ?l_without ?c_without ?k_without ?a_least_of ?l_least_of ?c_least_of ?k_least_of ?a__law_mix ?l__law_mix ?c__law_mix ?k__law_mix ?a__law_next ?l__law_next ?c__law_next ?k__law_next ?a__law_pairs ?l__law_pairs ?c__law_pairs ?k__law_pairs ?a__law_may ?l__law_may ?c__law_may ?k__law_may ?a__law_groups ?l__law_groups ?c__law_groups ?k__law_groups ?a__law_is_group ?l__law_is_group ?c__law_is_group ?k__law_is_group ?a__law_every ?l__law_every ?c__law_every ?k__law_every ?a__law_row_of ?l__law_row_of ?c__law_row_of ?k__law_row_of ?a_law ?l_law ?c_law ?k_law ?z_all ?z_bool ?z_enumerate ?z_int ?z_isinstance ?z_len ?z_list ?z_max ?z_min ?z_range ?z_set ?z_sorted ?z_sum ?z_tuple ?v_MOST_LETTERS ?v_MOST_LENGTH ?v_MOST_IN_ROW ?v_MOST_LENGTH_BY ?v_MOST_MODULUS ?pg ?hd ?po ?sa ?mk ?kc ?nl ?np ?ha ?hn ?htk ?hm ?me ?nt ?nf
    (case aC => k_is)
    (case a_is_whole => k_is)
    (case l_is_whole => k_is)
    (case c_is_whole => k_is)
    (case k_is_whole => k_is)
    (case a_is_letter => k_is)
    (case l_is_letter => k_is)
    (case c_is_letter => k_is)
    (case k_is_letter => k_is)
    (case a_is_pair => k_is)
    (case l_is_pair => k_is)
    (case c_is_pair => k_is)
    (case k_is_pair => k_is)
    (case a_check_pairs => k_is)
    (case l_check_pairs => k_is)
    (case c_check_pairs => k_is)
    (case k_check_pairs => k_is)
    (case a_Trade___init__ => k_is)
    (case i_Trade___init__ => k_is)
    (case l_Trade___init__ => k_is)
    (case c_Trade___init__ => k_is)
    (case k_Trade___init__ => k_is)
    (case a_Trade_letters => k_is)
    (case g_Trade_letters => k_is)
    (case t_Trade_letters => k_is)
    (case r_Trade_letters => k_is)
    (case l_Trade_letters => k_is)
    (case c_Trade_letters => k_is)
    (case k_Trade_letters => k_is)
    (case a_Trade_pairs => k_is)
    (case g_Trade_pairs => k_is)
    (case t_Trade_pairs => k_is)
    (case r_Trade_pairs => k_is)
    (case l_Trade_pairs => k_is)
    (case c_Trade_pairs => k_is)
    (case k_Trade_pairs => k_is)
    (case a_Trade___eq__ => k_is)
    (case i_Trade___eq__ => k_is)
    (case l_Trade___eq__ => k_is)
    (case c_Trade___eq__ => k_is)
    (case k_Trade___eq__ => k_is)
    (case a_check_trade => k_is)
    (case l_check_trade => k_is)
    (case c_check_trade => k_is)
    (case k_check_trade => k_is)
    (case a_may_change => k_is)
    (case l_may_change => k_is)
    (case c_may_change => k_is)
    (case k_may_change => k_is)
    (case a_bars_of => k_is)
    (case l_bars_of => k_is)
    (case c_bars_of => k_is)
    (case k_bars_of => k_is)
    (case a_groups => k_is)
    (case l_groups => k_is)
    (case c_groups => k_is)
    (case k_groups => k_is)
    (case a_all_groups => k_is)
    (case l_all_groups => k_is)
    (case c_all_groups => k_is)
    (case k_all_groups => k_is)
    (case a_may_join => k_is)
    (case l_may_join => k_is)
    (case c_may_join => k_is)
    (case k_may_join => k_is)
    (case a_signed_counts => k_is)
    (case l_signed_counts => k_is)
    (case c_signed_counts => k_is)
    (case k_signed_counts => k_is)
    (case a_sign => k_is)
    (case l_sign => k_is)
    (case c_sign => k_is)
    (case k_sign => k_is)
    (case a_how_many => k_is)
    (case l_how_many => k_is)
    (case c_how_many => k_is)
    (case k_how_many => k_is)
    (case a_how_many_by => k_is)
    (case l_how_many_by => k_is)
    (case c_how_many_by => k_is)
    (case k_how_many_by => k_is)
    (case a_term_by => k_is)
    (case l_term_by => k_is)
    (case c_term_by => k_is)
    (case k_term_by => k_is)
    (case a_change_signs => k_is)
    (case l_change_signs => k_is)
    (case c_change_signs => k_is)
    (case k_change_signs => k_is)
    (case a_multiply => k_is)
    (case l_multiply => k_is)
    (case c_multiply => k_is)
    (case k_multiply => k_is)
    (case a_is_row => k_is)
    (case l_is_row => k_is)
    (case c_is_row => k_is)
    (case k_is_row => k_is)
    (case a_check_row => k_is)
    (case l_check_row => k_is)
    (case c_check_row => k_is)
    (case k_check_row => k_is)
    (case a_least => k_is)
    (case l_least => k_is)
    (case c_least => k_is)
    (case k_least => k_is)
    (case a_first_letters => k_is)
    (case l_first_letters => k_is)
    (case c_first_letters => k_is)
    (case k_first_letters => k_is)
    (case a_without => k_is)
    (case l_without => k_is)
    (case c_without => k_is)
    (case k_without => k_is)
    (case a_least_of => k_is)
    (case l_least_of => k_is)
    (case c_least_of => k_is)
    (case k_least_of => k_is)
    (case a__law_mix => k_is)
    (case l__law_mix => k_is)
    (case c__law_mix => k_is)
    (case k__law_mix => k_is)
    (case a__law_next => k_is)
    (case l__law_next => k_is)
    (case c__law_next => k_is)
    (case k__law_next => k_is)
    (case a__law_pairs => k_is)
    (case l__law_pairs => k_is)
    (case c__law_pairs => k_is)
    (case k__law_pairs => k_is)
    (case a__law_may => k_is)
    (case l__law_may => k_is)
    (case c__law_may => k_is)
    (case k__law_may => k_is)
    (case a__law_groups => k_is)
    (case l__law_groups => k_is)
    (case c__law_groups => k_is)
    (case k__law_groups => k_is)
    (case a__law_is_group => k_is)
    (case l__law_is_group => k_is)
    (case c__law_is_group => k_is)
    (case k__law_is_group => k_is)
    (case a__law_every => k_is)
    (case l__law_every => k_is)
    (case c__law_every => k_is)
    (case k__law_every => k_is)
    (case a__law_row_of => k_is)
    (case l__law_row_of => k_is)
    (case c__law_row_of => k_is)
    (case k__law_row_of => k_is)
    (case a_law => k_is)
    (case l_law => k_is)
    (case c_law => k_is)
    (case k_law => k_is)
    (case z_all => k_is)
    (case z_bool => k_is)
    (case z_enumerate => k_is)
    (case z_int => k_is)
    (case z_isinstance => k_is)
    (case z_len => k_is)
    (case z_list => k_is)
    (case z_max => k_is)
    (case z_min => k_is)
    (case z_range => k_is)
    (case z_set => k_is)
    (case z_sorted => k_is)
    (case z_sum => k_is)
    (case z_tuple => k_is)
    (case v_MOST_LETTERS => k_is)
    (case v_MOST_LENGTH => k_is)
    (case v_MOST_IN_ROW => k_is)
    (case v_MOST_LENGTH_BY => k_is)
    (case v_MOST_MODULUS => k_is)
    (case pg => first | k_is | rfl | decide +kernel)
    (case hd => first | k_is | rfl | decide +kernel)
    (case po => first | k_is | rfl | decide +kernel)
    (case sa => first | k_is | rfl | decide +kernel)
    (case mk => first | k_is | rfl | decide +kernel)
    (case kc => first | k_is | rfl | decide +kernel)
    (case nl => first | k_is | rfl | decide +kernel)
    (case np => first | k_is | rfl | decide +kernel)
    (case ha => first | k_is | rfl | decide +kernel)
    (case hn => first | k_is | rfl | decide +kernel)
    (case htk => first | k_is | rfl | decide +kernel)
    (case hm => first | k_is | rfl | decide +kernel)
    (case me => first | k_is | rfl | decide +kernel)
    (case nt => first | k_is | rfl | decide +kernel)
    (case nf => first | k_is | rfl | decide +kernel)
